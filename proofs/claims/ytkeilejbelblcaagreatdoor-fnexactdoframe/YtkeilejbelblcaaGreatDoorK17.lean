import Derived.Test.YtkeilejbelblcaaGreatDoorJbc
import Derived.Test.YtkeilejbelblcaaGreatDoorIf
import Derived.Test.YtkeilejbelblcaaGreatDoorJai
namespace Go.Proofs.YtkeilejbelblcaaGreatDoor
open Go.RowKit Go.Lib
def DkG (p:Pl) (f:Fm) (wb yb bb ob pb:Nat) (et:TypeId) (ev:Value) (w:World) (e:Ending) (w':World):Prop:=
 Below w.heap.size w w'/\((frameB p f=false/\e=.returned (.tuple #[.agg #[.int .i64 0,.slice none 0 0,.slice none 0 0,.slice none 0 0,.int .i64 0,.slice none 0 0,.slice none 0 0,.slice none 0 0],.iface et ev]))\/(frameB p f=true/\∃ia ic v,e=.returned (.tuple #[.agg #[.int .i64 p.sec,.slice (some (ad wb 0)) p.nw p.nw,.slice (some (ad yb 0)) p.ny p.ny,.slice (some (ad bb 0)) p.nb p.nb,.int .i64 p.hold,.slice (some (ad ob 0)) f.no f.no,.slice (some (ad pb 0)) f.np f.np,.slice ia f.nh ic],.nilIface])/\WlOwn w.heap.size w' ia f.nh ic (fun i=>(p.Y i).ns) (stS p f) v))
set_option maxRecDepth 100000 in
set_option maxHeartbeats 16000000 in
theorem desk42 (p:Pl) (f:Fm) (wb yb bb:Nat) (lo rr:Nat->Nat) (ob pb hb:Nat) (r:Nat->Nat) (et:TypeId) (ev:Value) (w:World) (hs:p.small) (hfs:f.small) (hP:PlOwn 0 w p wb yb bb lo rr) (hF:FmOwn 0 w f (.slice (some (ad ob 0)) f.no f.no) (.slice (some (ad pb 0)) f.np f.np) (.slice (some (ad hb 0)) f.nh f.nh) r) (he:w.cell? (ad 0 0)=some (.iface et ev)) (h0:0<w.heap.size):
  Calls Tryz.prog 42 #[.agg #[.int .i64 p.sec,.slice (some (ad wb 0)) p.nw p.nw,.slice (some (ad yb 0)) p.ny p.ny,.slice (some (ad bb 0)) p.nb p.nb,.int .i64 p.hold],.agg #[.bool f.ok,.slice (some (ad ob 0)) f.no f.no,.slice (some (ad pb 0)) f.np f.np,.slice (some (ad hb 0)) f.nh f.nh]] w fun e w'=>DkG p f wb yb bb ob pb et ev w e w':=by
 have H:Hid (PlOwn 0 w p wb yb bb lo rr/\FmOwn 0 w f (.slice (some (ad ob 0)) f.no f.no) (.slice (some (ad pb 0)) f.np f.np) (.slice (some (ad hb 0)) f.nh f.nh) r/\p.small/\f.small):=⟨hP,hF,hs,hfs⟩
 have EL:Hid (w.cell? (ad 0 0)=some (.iface et ev)/\0<w.heap.size):=⟨he,h0⟩
 have S0:Hid (Below w.heap.size w (((w.alloc (.cells (vPo p wb yb bb) 37)).alloc (.cells #[.bool f.ok,.slice (some (ad ob 0)) f.no f.no,.slice (some (ad pb 0)) f.np f.np,.slice (some (ad hb 0)) f.nh f.nh] 42)).alloc (.cells z8v 84))/\Box (((w.alloc (.cells (vPo p wb yb bb) 37)).alloc (.cells #[.bool f.ok,.slice (some (ad ob 0)) f.no f.no,.slice (some (ad pb 0)) f.np f.np,.slice (some (ad hb 0)) f.nh f.nh] 42)).alloc (.cells z8v 84)) w.heap.size 37 (vPo p wb yb bb)/\Box (((w.alloc (.cells (vPo p wb yb bb) 37)).alloc (.cells #[.bool f.ok,.slice (some (ad ob 0)) f.no f.no,.slice (some (ad pb 0)) f.np f.np,.slice (some (ad hb 0)) f.nh f.nh] 42)).alloc (.cells z8v 84)) (w.heap.size+1) 42 #[.bool f.ok,.slice (some (ad ob 0)) f.no f.no,.slice (some (ad pb 0)) f.np f.np,.slice (some (ad hb 0)) f.nh f.nh]/\Box (((w.alloc (.cells (vPo p wb yb bb) 37)).alloc (.cells #[.bool f.ok,.slice (some (ad ob 0)) f.no f.no,.slice (some (ad pb 0)) f.np f.np,.slice (some (ad hb 0)) f.nh f.nh] 42)).alloc (.cells z8v 84)) (w.heap.size+1+1) 84 z8v):=⟨bel3 _ _ _ _,((Box.new _ _ _).alloc _).alloc _,by have :=(Box.new (w.alloc (.cells (vPo p wb yb bb) 37)) 42 #[.bool f.ok,.slice (some (ad ob 0)) f.no f.no,.slice (some (ad pb 0)) f.np f.np,.slice (some (ad hb 0)) f.nh f.nh]).alloc (.cells z8v 84);simpa using this,by have :=Box.new ((w.alloc (.cells (vPo p wb yb bb) 37)).alloc (.cells #[.bool f.ok,.slice (some (ad ob 0)) f.no f.no,.slice (some (ad pb 0)) f.np f.np,.slice (some (ad hb 0)) f.nh f.nh] 42)) 84 z8v;simpa using this⟩
 obtain⟨R,HR⟩:∃R,Hid (deskB p f=R):=⟨_,rfl⟩
 have HERR:Hid (R=false->∀W,Below w.heap.size w W->DkG p f wb yb bb ob pb et ev w (.returned (.tuple #[.agg #[.int .i64 0,.slice none 0 0,.slice none 0 0,.slice none 0 0,.int .i64 0,.slice none 0 0,.slice none 0 0,.slice none 0 0],.iface et ev])) W):=fun e W hb=>⟨hb,.inl ⟨by rw[<-desk_frame,HR.out,e],rfl⟩⟩
 have HNO:Hid (sizesB p f=false->R=false):=fun e=>by rw[<-HR.out,deskB,e];rfl
 have hnp:f.np<=1048576:=hfs.2.1
 have hnh:f.nh<=1048576:=hfs.2.2.1
 clear hP hF hs hfs he h0
 go_enter Tryz.func42,Tryz.ntmps42
 go_wp2_with fail
 generalize (((w.alloc (.cells (vPo p wb yb bb) 37)).alloc (.cells #[.bool f.ok,.slice (some (ad ob 0)) f.no f.no,.slice (some (ad pb 0)) f.np f.np,.slice (some (ad hb 0)) f.nh f.nh] 42)).alloc (.cells z8v 84))=W at S0⊢
 refine(planI9 p wb yb bb lo rr W H.out.2.2.1 (H.out.1.mono nr S0.out.1 nr)).mono ?_
 rintro e w1 ⟨he,hb1⟩
 have T:Hid (Below w.heap.size w w1/\Box w1 w.heap.size 37 (vPo p wb yb bb)/\Box w1 (w.heap.size+1) 42 #[.bool f.ok,.slice (some (ad ob 0)) f.no f.no,.slice (some (ad pb 0)) f.np f.np,.slice (some (ad hb 0)) f.nh f.nh]/\Box w1 (w.heap.size+1+1) 84 z8v):=⟨S0.out.1.trans (hb1.mono S0.out.1.size),S0.out.2.1.mono hb1 nr,S0.out.2.2.1.mono hb1 nr,S0.out.2.2.2.mono hb1 nr⟩
 clear hb1 S0
 have p0:=T.out.2.1.cel 0
 have p1:=T.out.2.1.cel 1
 have p2:=T.out.2.1.cel 2
 have f0:=T.out.2.2.1.cel 0
 have f1:=T.out.2.2.1.cel 1
 have f2:=T.out.2.2.1.cel 2
 have f3:=T.out.2.2.1.cel 3
 by_cases a0:(planF p).1=0
 rotate_left
 ·
  have zz:((planF p).1==0)=false:=by simpa using a0
  have HZ:Hid (sizesB p f=false):=by simp[Hid,sizesB,a0]
  subst he
  have e0:w1.cell? (ad 0 0)=some (.iface et ev):=cell_keep T.out.1 EL.out.2 EL.out.1
  obtain⟨ez0,ez1,ez2,ez3,ez4,ez5,ez6,ez7⟩:=T.out.2.2.2.c8
  obtain⟨ey0,ey1,ey2,ey3,ey4,ey5,ey6,ey7⟩:=T.out.2.2.2.f8
  have EF:Hid (Below w.heap.size w ((((((((w1.setCell (ad (w.heap.size+1+1) 0) (.int .i64 0)).setCell (ad (w.heap.size+1+1) 1) (.slice none 0 0)).setCell (ad (w.heap.size+1+1) 2) (.slice none 0 0)).setCell (ad (w.heap.size+1+1) 3) (.slice none 0 0)).setCell (ad (w.heap.size+1+1) 4) (.int .i64 0)).setCell (ad (w.heap.size+1+1) 5) (.slice none 0 0)).setCell (ad (w.heap.size+1+1) 6) (.slice none 0 0)).setCell (ad (w.heap.size+1+1) 7) (.slice none 0 0)).drew/\Box ((((((((w1.setCell (ad (w.heap.size+1+1) 0) (.int .i64 0)).setCell (ad (w.heap.size+1+1) 1) (.slice none 0 0)).setCell (ad (w.heap.size+1+1) 2) (.slice none 0 0)).setCell (ad (w.heap.size+1+1) 3) (.slice none 0 0)).setCell (ad (w.heap.size+1+1) 4) (.int .i64 0)).setCell (ad (w.heap.size+1+1) 5) (.slice none 0 0)).setCell (ad (w.heap.size+1+1) 6) (.slice none 0 0)).setCell (ad (w.heap.size+1+1) 7) (.slice none 0 0)).drew (w.heap.size+1+1) 84 z8v):=⟨(below_set8 T.out.1 (by omega)).drew,(box_set8 T.out.2.2.2).drew⟩
  have HER:=HERR.out (HNO.out HZ.out)
  go_wp2_with fail
  refine wp_region_held_drew (S:=(fun wx:World=>wx.cell? (ad 0 0)=some (.iface et ev))) (by kernel_rfl) ?_ (fun hHeld=>?_)
  ·
   exact e0
  refine tk 0 ?_
  refine tk 1 ?_
  refine rl 2 fun K hK=>?_
  go_simp
  refine hK.out _ _ ?_ (fun hHeld2=>?_)
  ·
   exact cell_keep EF.out.1 EL.out.2 EL.out.1
  clear hK K
  refine tk 3 ?_
  refine wpAnyH_done (by kernel_rfl) ?_ _
  generalize ((((((((w1.setCell (ad (w.heap.size+1+1) 0) (.int .i64 0)).setCell (ad (w.heap.size+1+1) 1) (.slice none 0 0)).setCell (ad (w.heap.size+1+1) 2) (.slice none 0 0)).setCell (ad (w.heap.size+1+1) 3) (.slice none 0 0)).setCell (ad (w.heap.size+1+1) 4) (.int .i64 0)).setCell (ad (w.heap.size+1+1) 5) (.slice none 0 0)).setCell (ad (w.heap.size+1+1) 6) (.slice none 0 0)).setCell (ad (w.heap.size+1+1) 7) (.slice none 0 0)).drew=W9 at EF⊢
  clear ez0 ey0 ez1 ey1 ez2 ey2 ez3 ey3 ez4 ey4 ez5 ey5 ez6 ey6 ez7 ey7 e0
  obtain⟨d0,d1,d2,d3,d4,d5,d6,d7⟩:=EF.out.2.c8
  go_wp2_with fail
  exact bodyPost_ret (v:=.tuple #[.agg #[.int .i64 0,.slice none 0 0,.slice none 0 0,.slice none 0 0,.int .i64 0,.slice none 0 0,.slice none 0 0,.slice none 0 0],.iface et ev]) (by simp[results,Tryz.results42,go_sem,d0,d1,d2,d3,d4,d5,d6,d7]) rfl (HER _ EF.out.1)
 have ap:=planF_zero a0
 rw[a0,ap.1] at he
 subst he
 have HA0:Hid ((planF p).1=0/\p.ny<=100):=⟨a0,ap.2.2.2.2⟩
 clear a0 ap
 cases a1:f.ok with
 |false=>
  have HZ:Hid (sizesB p f=false):=by simp[Hid,sizesB,a1]
  rw[a1] at f0 T
  have e0:w1.cell? (ad 0 0)=some (.iface et ev):=cell_keep T.out.1 EL.out.2 EL.out.1
  obtain⟨ez0,ez1,ez2,ez3,ez4,ez5,ez6,ez7⟩:=T.out.2.2.2.c8
  obtain⟨ey0,ey1,ey2,ey3,ey4,ey5,ey6,ey7⟩:=T.out.2.2.2.f8
  have EF:Hid (Below w.heap.size w ((((((((w1.setCell (ad (w.heap.size+1+1) 0) (.int .i64 0)).setCell (ad (w.heap.size+1+1) 1) (.slice none 0 0)).setCell (ad (w.heap.size+1+1) 2) (.slice none 0 0)).setCell (ad (w.heap.size+1+1) 3) (.slice none 0 0)).setCell (ad (w.heap.size+1+1) 4) (.int .i64 0)).setCell (ad (w.heap.size+1+1) 5) (.slice none 0 0)).setCell (ad (w.heap.size+1+1) 6) (.slice none 0 0)).setCell (ad (w.heap.size+1+1) 7) (.slice none 0 0)).drew/\Box ((((((((w1.setCell (ad (w.heap.size+1+1) 0) (.int .i64 0)).setCell (ad (w.heap.size+1+1) 1) (.slice none 0 0)).setCell (ad (w.heap.size+1+1) 2) (.slice none 0 0)).setCell (ad (w.heap.size+1+1) 3) (.slice none 0 0)).setCell (ad (w.heap.size+1+1) 4) (.int .i64 0)).setCell (ad (w.heap.size+1+1) 5) (.slice none 0 0)).setCell (ad (w.heap.size+1+1) 6) (.slice none 0 0)).setCell (ad (w.heap.size+1+1) 7) (.slice none 0 0)).drew (w.heap.size+1+1) 84 z8v):=⟨(below_set8 T.out.1 (by omega)).drew,(box_set8 T.out.2.2.2).drew⟩
  have HER:=HERR.out (HNO.out HZ.out)
  go_wp2_with fail
  refine wp_region_held_drew (S:=(fun wx:World=>wx.cell? (ad 0 0)=some (.iface et ev))) (by kernel_rfl) ?_ (fun hHeld=>?_)
  ·
   exact e0
  refine tk 0 ?_
  refine tk 1 ?_
  refine rl 2 fun K hK=>?_
  go_simp
  refine hK.out _ _ ?_ (fun hHeld2=>?_)
  ·
   exact cell_keep EF.out.1 EL.out.2 EL.out.1
  clear hK K
  refine tk 3 ?_
  refine wpAnyH_done (by kernel_rfl) ?_ _
  generalize ((((((((w1.setCell (ad (w.heap.size+1+1) 0) (.int .i64 0)).setCell (ad (w.heap.size+1+1) 1) (.slice none 0 0)).setCell (ad (w.heap.size+1+1) 2) (.slice none 0 0)).setCell (ad (w.heap.size+1+1) 3) (.slice none 0 0)).setCell (ad (w.heap.size+1+1) 4) (.int .i64 0)).setCell (ad (w.heap.size+1+1) 5) (.slice none 0 0)).setCell (ad (w.heap.size+1+1) 6) (.slice none 0 0)).setCell (ad (w.heap.size+1+1) 7) (.slice none 0 0)).drew=W9 at EF⊢
  clear ez0 ey0 ez1 ey1 ez2 ey2 ez3 ey3 ez4 ey4 ez5 ey5 ez6 ey6 ez7 ey7 e0
  obtain⟨d0,d1,d2,d3,d4,d5,d6,d7⟩:=EF.out.2.c8
  go_wp2_with fail
  exact bodyPost_ret (v:=.tuple #[.agg #[.int .i64 0,.slice none 0 0,.slice none 0 0,.slice none 0 0,.int .i64 0,.slice none 0 0,.slice none 0 0,.slice none 0 0],.iface et ev]) (by simp[results,Tryz.results42,go_sem,d0,d1,d2,d3,d4,d5,d6,d7]) rfl (HER _ EF.out.1)
 |true=>
 rw[a1] at f0 T
 by_cases a2:(f.no:Int)=p.sec
 rotate_left
 ·
  have HZ:Hid (sizesB p f=false):=by simp[Hid,sizesB,a2]
  have z2:((f.no:Int) !=p.sec)=true:=by simpa using a2
  have e0:w1.cell? (ad 0 0)=some (.iface et ev):=cell_keep T.out.1 EL.out.2 EL.out.1
  obtain⟨ez0,ez1,ez2,ez3,ez4,ez5,ez6,ez7⟩:=T.out.2.2.2.c8
  obtain⟨ey0,ey1,ey2,ey3,ey4,ey5,ey6,ey7⟩:=T.out.2.2.2.f8
  have EF:Hid (Below w.heap.size w ((((((((w1.setCell (ad (w.heap.size+1+1) 0) (.int .i64 0)).setCell (ad (w.heap.size+1+1) 1) (.slice none 0 0)).setCell (ad (w.heap.size+1+1) 2) (.slice none 0 0)).setCell (ad (w.heap.size+1+1) 3) (.slice none 0 0)).setCell (ad (w.heap.size+1+1) 4) (.int .i64 0)).setCell (ad (w.heap.size+1+1) 5) (.slice none 0 0)).setCell (ad (w.heap.size+1+1) 6) (.slice none 0 0)).setCell (ad (w.heap.size+1+1) 7) (.slice none 0 0)).drew/\Box ((((((((w1.setCell (ad (w.heap.size+1+1) 0) (.int .i64 0)).setCell (ad (w.heap.size+1+1) 1) (.slice none 0 0)).setCell (ad (w.heap.size+1+1) 2) (.slice none 0 0)).setCell (ad (w.heap.size+1+1) 3) (.slice none 0 0)).setCell (ad (w.heap.size+1+1) 4) (.int .i64 0)).setCell (ad (w.heap.size+1+1) 5) (.slice none 0 0)).setCell (ad (w.heap.size+1+1) 6) (.slice none 0 0)).setCell (ad (w.heap.size+1+1) 7) (.slice none 0 0)).drew (w.heap.size+1+1) 84 z8v):=⟨(below_set8 T.out.1 (by omega)).drew,(box_set8 T.out.2.2.2).drew⟩
  have HER:=HERR.out (HNO.out HZ.out)
  go_wp2_with fail
  refine wp_region_held_drew (S:=(fun wx:World=>wx.cell? (ad 0 0)=some (.iface et ev))) (by kernel_rfl) ?_ (fun hHeld=>?_)
  ·
   exact e0
  refine tk 0 ?_
  refine tk 1 ?_
  refine rl 2 fun K hK=>?_
  go_simp
  refine hK.out _ _ ?_ (fun hHeld2=>?_)
  ·
   exact cell_keep EF.out.1 EL.out.2 EL.out.1
  clear hK K
  refine tk 3 ?_
  refine wpAnyH_done (by kernel_rfl) ?_ _
  generalize ((((((((w1.setCell (ad (w.heap.size+1+1) 0) (.int .i64 0)).setCell (ad (w.heap.size+1+1) 1) (.slice none 0 0)).setCell (ad (w.heap.size+1+1) 2) (.slice none 0 0)).setCell (ad (w.heap.size+1+1) 3) (.slice none 0 0)).setCell (ad (w.heap.size+1+1) 4) (.int .i64 0)).setCell (ad (w.heap.size+1+1) 5) (.slice none 0 0)).setCell (ad (w.heap.size+1+1) 6) (.slice none 0 0)).setCell (ad (w.heap.size+1+1) 7) (.slice none 0 0)).drew=W9 at EF⊢
  clear ez0 ey0 ez1 ey1 ez2 ey2 ez3 ey3 ez4 ey4 ez5 ey5 ez6 ey6 ez7 ey7 e0
  obtain⟨d0,d1,d2,d3,d4,d5,d6,d7⟩:=EF.out.2.c8
  go_wp2_with fail
  exact bodyPost_ret (v:=.tuple #[.agg #[.int .i64 0,.slice none 0 0,.slice none 0 0,.slice none 0 0,.int .i64 0,.slice none 0 0,.slice none 0 0,.slice none 0 0],.iface et ev]) (by simp[results,Tryz.results42,go_sem,d0,d1,d2,d3,d4,d5,d6,d7]) rfl (HER _ EF.out.1)
 have z2:((f.no:Int) !=p.sec)=false:=by simpa using a2
 by_cases a3:f.np=p.nw
 rotate_left
 ·
  have HZ:Hid (sizesB p f=false):=by simp[Hid,sizesB,a3]
  have z3:((f.np:Int) !=(p.nw:Int))=true:=by simp;omega
  have e0:w1.cell? (ad 0 0)=some (.iface et ev):=cell_keep T.out.1 EL.out.2 EL.out.1
  obtain⟨ez0,ez1,ez2,ez3,ez4,ez5,ez6,ez7⟩:=T.out.2.2.2.c8
  obtain⟨ey0,ey1,ey2,ey3,ey4,ey5,ey6,ey7⟩:=T.out.2.2.2.f8
  have EF:Hid (Below w.heap.size w ((((((((w1.setCell (ad (w.heap.size+1+1) 0) (.int .i64 0)).setCell (ad (w.heap.size+1+1) 1) (.slice none 0 0)).setCell (ad (w.heap.size+1+1) 2) (.slice none 0 0)).setCell (ad (w.heap.size+1+1) 3) (.slice none 0 0)).setCell (ad (w.heap.size+1+1) 4) (.int .i64 0)).setCell (ad (w.heap.size+1+1) 5) (.slice none 0 0)).setCell (ad (w.heap.size+1+1) 6) (.slice none 0 0)).setCell (ad (w.heap.size+1+1) 7) (.slice none 0 0)).drew/\Box ((((((((w1.setCell (ad (w.heap.size+1+1) 0) (.int .i64 0)).setCell (ad (w.heap.size+1+1) 1) (.slice none 0 0)).setCell (ad (w.heap.size+1+1) 2) (.slice none 0 0)).setCell (ad (w.heap.size+1+1) 3) (.slice none 0 0)).setCell (ad (w.heap.size+1+1) 4) (.int .i64 0)).setCell (ad (w.heap.size+1+1) 5) (.slice none 0 0)).setCell (ad (w.heap.size+1+1) 6) (.slice none 0 0)).setCell (ad (w.heap.size+1+1) 7) (.slice none 0 0)).drew (w.heap.size+1+1) 84 z8v):=⟨(below_set8 T.out.1 (by omega)).drew,(box_set8 T.out.2.2.2).drew⟩
  have HER:=HERR.out (HNO.out HZ.out)
  go_wp2_with fail
  refine wp_region_held_drew (S:=(fun wx:World=>wx.cell? (ad 0 0)=some (.iface et ev))) (by kernel_rfl) ?_ (fun hHeld=>?_)
  ·
   exact e0
  refine tk 0 ?_
  refine tk 1 ?_
  refine rl 2 fun K hK=>?_
  go_simp
  refine hK.out _ _ ?_ (fun hHeld2=>?_)
  ·
   exact cell_keep EF.out.1 EL.out.2 EL.out.1
  clear hK K
  refine tk 3 ?_
  refine wpAnyH_done (by kernel_rfl) ?_ _
  generalize ((((((((w1.setCell (ad (w.heap.size+1+1) 0) (.int .i64 0)).setCell (ad (w.heap.size+1+1) 1) (.slice none 0 0)).setCell (ad (w.heap.size+1+1) 2) (.slice none 0 0)).setCell (ad (w.heap.size+1+1) 3) (.slice none 0 0)).setCell (ad (w.heap.size+1+1) 4) (.int .i64 0)).setCell (ad (w.heap.size+1+1) 5) (.slice none 0 0)).setCell (ad (w.heap.size+1+1) 6) (.slice none 0 0)).setCell (ad (w.heap.size+1+1) 7) (.slice none 0 0)).drew=W9 at EF⊢
  clear ez0 ey0 ez1 ey1 ez2 ey2 ez3 ey3 ez4 ey4 ez5 ey5 ez6 ey6 ez7 ey7 e0
  obtain⟨d0,d1,d2,d3,d4,d5,d6,d7⟩:=EF.out.2.c8
  go_wp2_with fail
  exact bodyPost_ret (v:=.tuple #[.agg #[.int .i64 0,.slice none 0 0,.slice none 0 0,.slice none 0 0,.int .i64 0,.slice none 0 0,.slice none 0 0,.slice none 0 0],.iface et ev]) (by simp[results,Tryz.results42,go_sem,d0,d1,d2,d3,d4,d5,d6,d7]) rfl (HER _ EF.out.1)
 have z3:((f.np:Int) !=(p.nw:Int))=false:=by simp;omega
 by_cases a4:f.nh=p.ny
 rotate_left
 ·
  have HZ:Hid (sizesB p f=false):=by simp[Hid,sizesB,a4]
  have z4:((f.nh:Int) !=(p.ny:Int))=true:=by simp;omega
  have HA3:Hid (f.np=p.nw):=a3
  clear a3
  have e0:w1.cell? (ad 0 0)=some (.iface et ev):=cell_keep T.out.1 EL.out.2 EL.out.1
  obtain⟨ez0,ez1,ez2,ez3,ez4,ez5,ez6,ez7⟩:=T.out.2.2.2.c8
  obtain⟨ey0,ey1,ey2,ey3,ey4,ey5,ey6,ey7⟩:=T.out.2.2.2.f8
  have EF:Hid (Below w.heap.size w ((((((((w1.setCell (ad (w.heap.size+1+1) 0) (.int .i64 0)).setCell (ad (w.heap.size+1+1) 1) (.slice none 0 0)).setCell (ad (w.heap.size+1+1) 2) (.slice none 0 0)).setCell (ad (w.heap.size+1+1) 3) (.slice none 0 0)).setCell (ad (w.heap.size+1+1) 4) (.int .i64 0)).setCell (ad (w.heap.size+1+1) 5) (.slice none 0 0)).setCell (ad (w.heap.size+1+1) 6) (.slice none 0 0)).setCell (ad (w.heap.size+1+1) 7) (.slice none 0 0)).drew/\Box ((((((((w1.setCell (ad (w.heap.size+1+1) 0) (.int .i64 0)).setCell (ad (w.heap.size+1+1) 1) (.slice none 0 0)).setCell (ad (w.heap.size+1+1) 2) (.slice none 0 0)).setCell (ad (w.heap.size+1+1) 3) (.slice none 0 0)).setCell (ad (w.heap.size+1+1) 4) (.int .i64 0)).setCell (ad (w.heap.size+1+1) 5) (.slice none 0 0)).setCell (ad (w.heap.size+1+1) 6) (.slice none 0 0)).setCell (ad (w.heap.size+1+1) 7) (.slice none 0 0)).drew (w.heap.size+1+1) 84 z8v):=⟨(below_set8 T.out.1 (by omega)).drew,(box_set8 T.out.2.2.2).drew⟩
  have HER:=HERR.out (HNO.out HZ.out)
  go_wp2_with fail
  refine wp_region_held_drew (S:=(fun wx:World=>wx.cell? (ad 0 0)=some (.iface et ev))) (by kernel_rfl) ?_ (fun hHeld=>?_)
  ·
   exact e0
  refine tk 0 ?_
  refine tk 1 ?_
  refine rl 2 fun K hK=>?_
  go_simp
  refine hK.out _ _ ?_ (fun hHeld2=>?_)
  ·
   exact cell_keep EF.out.1 EL.out.2 EL.out.1
  clear hK K
  refine tk 3 ?_
  refine wpAnyH_done (by kernel_rfl) ?_ _
  generalize ((((((((w1.setCell (ad (w.heap.size+1+1) 0) (.int .i64 0)).setCell (ad (w.heap.size+1+1) 1) (.slice none 0 0)).setCell (ad (w.heap.size+1+1) 2) (.slice none 0 0)).setCell (ad (w.heap.size+1+1) 3) (.slice none 0 0)).setCell (ad (w.heap.size+1+1) 4) (.int .i64 0)).setCell (ad (w.heap.size+1+1) 5) (.slice none 0 0)).setCell (ad (w.heap.size+1+1) 6) (.slice none 0 0)).setCell (ad (w.heap.size+1+1) 7) (.slice none 0 0)).drew=W9 at EF⊢
  clear ez0 ey0 ez1 ey1 ez2 ey2 ez3 ey3 ez4 ey4 ez5 ey5 ez6 ey6 ez7 ey7 e0
  obtain⟨d0,d1,d2,d3,d4,d5,d6,d7⟩:=EF.out.2.c8
  go_wp2_with fail
  exact bodyPost_ret (v:=.tuple #[.agg #[.int .i64 0,.slice none 0 0,.slice none 0 0,.slice none 0 0,.int .i64 0,.slice none 0 0,.slice none 0 0,.slice none 0 0],.iface et ev]) (by simp[results,Tryz.results42,go_sem,d0,d1,d2,d3,d4,d5,d6,d7]) rfl (HER _ EF.out.1)
 have z4:((f.nh:Int) !=(p.ny:Int))=false:=by simp;omega
 have HA:Hid ((planF p).1=0/\f.ok=true/\(f.no:Int)=p.sec/\f.np=p.nw/\f.nh=p.ny/\p.ny<=100):=⟨HA0.out.1,a1,a2,a3,a4,HA0.out.2⟩
 have HSZ:Hid (sizesB p f=true):=by simp[Hid,sizesB,HA0.out.1,a1,a2,a3,a4]
 have HR2:Hid ((allB (ptB f) f.np&&(allB (stB p f) f.nh&&(!clashD p (stS p f)&&allB (fun i=>sameB (setS p f i) (f.Y i)) f.nh)))=R):=by
  rw[Hid,<-HR.out,deskB,HSZ.out,Bool.true_and]
 clear a1 a2 a3 a4 HNO HA0
 go_wp2_with fail
 clear z2 z3 z4 p0 p1 p2 f0 f1 f2 f3
 go_loopw [52] (fun i wr=>∃q:Nat,q<=f.np/\i=.int .i64 (q:Int)/\Hid (∀k,k<q->ptB f k=true)/\Hid (Below w.heap.size w wr/\Box wr w.heap.size 37 (vPo p wb yb bb)/\Box wr (w.heap.size+1) 42 #[.bool true,.slice (some (ad ob 0)) f.no f.no,.slice (some (ad pb 0)) f.np f.np,.slice (some (ad hb 0)) f.nh f.nh]/\Box wr (w.heap.size+1+1) 84 z8v)) (fun i _=>f.np-(intOf i).toNat)
 case atStart=>exact⟨0,Nat.zero_le _,rfl,fun i hi=>absurd hi (Nat.not_lt_zero _),T⟩
 case round=>
  clear T
  obtain⟨q,hq,rfl,HQ,T⟩:=hrel
  by_cases hlt:q<f.np
  ·
   have HNO:Hid (ptB f q=false->R=false):=fun e=>by rw[<-HR2.out,allB_no hlt e];rfl
   obtain⟨b',off',e',_,hb',hc'⟩:=(H.out.2.1.p.vs.le (Nat.zero_le _)).mono nr T.out.1 nr (by omega)
   simp only[Option.some.injEq,Addr.mk.injEq,and_true] at e'
   obtain⟨rfl,rfl⟩:=e'
   have c0:wr.cell? (ad pb (q*2))=some (.int .i64 (f.P q 0)):=by have :=hc' q hlt 0 (by omega);simpa using this
   have c1:wr.cell? (ad pb (q*2+1))=some (.int .i64 (f.P q 1)):=by have :=hc' q hlt 1 (by omega);simpa using this
   clear hc'
   have hq0:(0:Int)<=(q:Int):=by omega
   have hqn:(q:Int)<(f.np:Int):=by omega
   have T2:Hid (Below w.heap.size w (wr.alloc (.cells #[.int .i64 (f.P q 0),.int .i64 (f.P q 1)] 69))/\Box (wr.alloc (.cells #[.int .i64 (f.P q 0),.int .i64 (f.P q 1)] 69)) w.heap.size 37 (vPo p wb yb bb)/\Box (wr.alloc (.cells #[.int .i64 (f.P q 0),.int .i64 (f.P q 1)] 69)) (w.heap.size+1) 42 #[.bool true,.slice (some (ad ob 0)) f.no f.no,.slice (some (ad pb 0)) f.np f.np,.slice (some (ad hb 0)) f.nh f.nh]/\Box (wr.alloc (.cells #[.int .i64 (f.P q 0),.int .i64 (f.P q 1)] 69)) (w.heap.size+1+1) 84 z8v):=⟨T.out.1.alloc T.out.1.size _,T.out.2.1.alloc _,T.out.2.2.1.alloc _,T.out.2.2.2.alloc _⟩
   go_wp2_with fail
   refine(within30 (f.P q 0) 1 2 _).mono ?_
   rintro e w2 ⟨he,hw⟩
   have hw:=hw.symm
   subst hw
   cases hA:inB (f.P q 0) 1 2 with
   |false=>
    have HF:Hid (R=false):=HNO.out (by simp[ptB,hA])
    rw[hA] at he
    subst he
    clear c0 c1
    generalize (wr.alloc (.cells #[.int .i64 (f.P q 0),.int .i64 (f.P q 1)] 69))=V at T2⊢
    have e0:V.cell? (ad 0 0)=some (.iface et ev):=cell_keep T2.out.1 EL.out.2 EL.out.1
    obtain⟨ez0,ez1,ez2,ez3,ez4,ez5,ez6,ez7⟩:=T2.out.2.2.2.c8
    obtain⟨ey0,ey1,ey2,ey3,ey4,ey5,ey6,ey7⟩:=T2.out.2.2.2.f8
    have EF:Hid (Below w.heap.size w ((((((((V.setCell (ad (w.heap.size+1+1) 0) (.int .i64 0)).setCell (ad (w.heap.size+1+1) 1) (.slice none 0 0)).setCell (ad (w.heap.size+1+1) 2) (.slice none 0 0)).setCell (ad (w.heap.size+1+1) 3) (.slice none 0 0)).setCell (ad (w.heap.size+1+1) 4) (.int .i64 0)).setCell (ad (w.heap.size+1+1) 5) (.slice none 0 0)).setCell (ad (w.heap.size+1+1) 6) (.slice none 0 0)).setCell (ad (w.heap.size+1+1) 7) (.slice none 0 0)).drew/\Box ((((((((V.setCell (ad (w.heap.size+1+1) 0) (.int .i64 0)).setCell (ad (w.heap.size+1+1) 1) (.slice none 0 0)).setCell (ad (w.heap.size+1+1) 2) (.slice none 0 0)).setCell (ad (w.heap.size+1+1) 3) (.slice none 0 0)).setCell (ad (w.heap.size+1+1) 4) (.int .i64 0)).setCell (ad (w.heap.size+1+1) 5) (.slice none 0 0)).setCell (ad (w.heap.size+1+1) 6) (.slice none 0 0)).setCell (ad (w.heap.size+1+1) 7) (.slice none 0 0)).drew (w.heap.size+1+1) 84 z8v):=⟨(below_set8 T2.out.1 (by omega)).drew,(box_set8 T2.out.2.2.2).drew⟩
    have HER:=HERR.out HF.out
    go_wp2_with fail
    refine wp_region_held_drew (S:=(fun wx:World=>wx.cell? (ad 0 0)=some (.iface et ev))) (by kernel_rfl) ?_ (fun hHeld=>?_)
    ·
     exact e0
    refine tk 0 ?_
    refine tk 1 ?_
    refine rl 2 fun K hK=>?_
    go_simp
    refine hK.out _ _ ?_ (fun hHeld2=>?_)
    ·
     exact cell_keep EF.out.1 EL.out.2 EL.out.1
    clear hK K
    refine tk 3 ?_
    refine wpAnyH_done (by kernel_rfl) ?_ _
    generalize ((((((((V.setCell (ad (w.heap.size+1+1) 0) (.int .i64 0)).setCell (ad (w.heap.size+1+1) 1) (.slice none 0 0)).setCell (ad (w.heap.size+1+1) 2) (.slice none 0 0)).setCell (ad (w.heap.size+1+1) 3) (.slice none 0 0)).setCell (ad (w.heap.size+1+1) 4) (.int .i64 0)).setCell (ad (w.heap.size+1+1) 5) (.slice none 0 0)).setCell (ad (w.heap.size+1+1) 6) (.slice none 0 0)).setCell (ad (w.heap.size+1+1) 7) (.slice none 0 0)).drew=W9 at EF⊢
    clear ez0 ey0 ez1 ey1 ez2 ey2 ez3 ey3 ez4 ey4 ez5 ey5 ez6 ey6 ez7 ey7 e0
    obtain⟨d0,d1,d2,d3,d4,d5,d6,d7⟩:=EF.out.2.c8
    go_wp2_with fail
    exact bodyPost_ret (v:=.tuple #[.agg #[.int .i64 0,.slice none 0 0,.slice none 0 0,.slice none 0 0,.int .i64 0,.slice none 0 0,.slice none 0 0,.slice none 0 0],.iface et ev]) (by simp[results,Tryz.results42,go_sem,d0,d1,d2,d3,d4,d5,d6,d7]) rfl (HER _ EF.out.1)
   |true=>
    rw[hA] at he
    subst he
    go_wp2_with fail
    refine(within30 (f.P q 1) 0 2 _).mono ?_
    rintro e w2 ⟨he,hw⟩
    have hw:=hw.symm
    subst hw
    clear c0 c1
    generalize (wr.alloc (.cells #[.int .i64 (f.P q 0),.int .i64 (f.P q 1)] 69))=V at T2⊢
    cases hA2:inB (f.P q 1) 0 2 with
    |false=>
     have HF:Hid (R=false):=HNO.out (by simp[ptB,hA2])
     rw[hA2] at he
     subst he
     have e0:V.cell? (ad 0 0)=some (.iface et ev):=cell_keep T2.out.1 EL.out.2 EL.out.1
     obtain⟨ez0,ez1,ez2,ez3,ez4,ez5,ez6,ez7⟩:=T2.out.2.2.2.c8
     obtain⟨ey0,ey1,ey2,ey3,ey4,ey5,ey6,ey7⟩:=T2.out.2.2.2.f8
     have EF:Hid (Below w.heap.size w ((((((((V.setCell (ad (w.heap.size+1+1) 0) (.int .i64 0)).setCell (ad (w.heap.size+1+1) 1) (.slice none 0 0)).setCell (ad (w.heap.size+1+1) 2) (.slice none 0 0)).setCell (ad (w.heap.size+1+1) 3) (.slice none 0 0)).setCell (ad (w.heap.size+1+1) 4) (.int .i64 0)).setCell (ad (w.heap.size+1+1) 5) (.slice none 0 0)).setCell (ad (w.heap.size+1+1) 6) (.slice none 0 0)).setCell (ad (w.heap.size+1+1) 7) (.slice none 0 0)).drew/\Box ((((((((V.setCell (ad (w.heap.size+1+1) 0) (.int .i64 0)).setCell (ad (w.heap.size+1+1) 1) (.slice none 0 0)).setCell (ad (w.heap.size+1+1) 2) (.slice none 0 0)).setCell (ad (w.heap.size+1+1) 3) (.slice none 0 0)).setCell (ad (w.heap.size+1+1) 4) (.int .i64 0)).setCell (ad (w.heap.size+1+1) 5) (.slice none 0 0)).setCell (ad (w.heap.size+1+1) 6) (.slice none 0 0)).setCell (ad (w.heap.size+1+1) 7) (.slice none 0 0)).drew (w.heap.size+1+1) 84 z8v):=⟨(below_set8 T2.out.1 (by omega)).drew,(box_set8 T2.out.2.2.2).drew⟩
     have HER:=HERR.out HF.out
     go_wp2_with fail
     refine wp_region_held_drew (S:=(fun wx:World=>wx.cell? (ad 0 0)=some (.iface et ev))) (by kernel_rfl) ?_ (fun hHeld=>?_)
     ·
      exact e0
     refine tk 0 ?_
     refine tk 1 ?_
     refine rl 2 fun K hK=>?_
     go_simp
     refine hK.out _ _ ?_ (fun hHeld2=>?_)
     ·
      exact cell_keep EF.out.1 EL.out.2 EL.out.1
     clear hK K
     refine tk 3 ?_
     refine wpAnyH_done (by kernel_rfl) ?_ _
     generalize ((((((((V.setCell (ad (w.heap.size+1+1) 0) (.int .i64 0)).setCell (ad (w.heap.size+1+1) 1) (.slice none 0 0)).setCell (ad (w.heap.size+1+1) 2) (.slice none 0 0)).setCell (ad (w.heap.size+1+1) 3) (.slice none 0 0)).setCell (ad (w.heap.size+1+1) 4) (.int .i64 0)).setCell (ad (w.heap.size+1+1) 5) (.slice none 0 0)).setCell (ad (w.heap.size+1+1) 6) (.slice none 0 0)).setCell (ad (w.heap.size+1+1) 7) (.slice none 0 0)).drew=W9 at EF⊢
     clear ez0 ey0 ez1 ey1 ez2 ey2 ez3 ey3 ez4 ey4 ez5 ey5 ez6 ey6 ez7 ey7 e0
     obtain⟨d0,d1,d2,d3,d4,d5,d6,d7⟩:=EF.out.2.c8
     go_wp2_with fail
     exact bodyPost_ret (v:=.tuple #[.agg #[.int .i64 0,.slice none 0 0,.slice none 0 0,.slice none 0 0,.int .i64 0,.slice none 0 0,.slice none 0 0,.slice none 0 0],.iface et ev]) (by simp[results,Tryz.results42,go_sem,d0,d1,d2,d3,d4,d5,d6,d7]) rfl (HER _ EF.out.1)
    |true=>
     rw[hA2] at he
     subst he
     have HQ2:Hid (∀k,k<q+1->ptB f k=true):=fun k hk=>by
      by_cases c:k=q
      ·
       subst c
       simp[ptB,hA,hA2]
      ·
       exact HQ.out k (by omega)
     go_wp2_with fail
     go_roundw
     case rel=>exact⟨q+1,by omega,by go_num,HQ2,T2⟩
     case measure=>simp[intOf];omega
  ·
   obtain rfl:q=f.np:=by omega
   have HR3:Hid ((allB (stB p f) f.nh&&(!clashD p (stS p f)&&allB (fun i=>sameB (setS p f i) (f.Y i)) f.nh))=R):=by
    rw[Hid,<-HR2.out,allB_iff.2 HQ.out,Bool.true_and]
   obtain⟨WQ,hWQ⟩:∃WQ,WQ=wr:=⟨_,rfl⟩
   have p0:=T.out.2.1.cel 0
   have p1:=T.out.2.1.cel 1
   have p2:=T.out.2.1.cel 2
   have p3:=T.out.2.1.cel 3
   have p4:=T.out.2.1.cel 4
   have f1:=T.out.2.2.1.cel 1
   have f2:=T.out.2.2.1.cel 2
   have f3:(wr.alloc (.cells #[.int .i64 p.sec,.slice (some (ad wb 0)) p.nw p.nw,.slice (some (ad yb 0)) p.ny p.ny,.slice (some (ad bb 0)) p.nb p.nb,.int .i64 p.hold,.slice (some (ad ob 0)) f.no f.no,.slice (some (ad pb 0)) f.np f.np,.slice none 0 0] 84)).cell? (ad (w.heap.size+1) 3)=some (.slice (some (ad hb 0)) f.nh f.nh):=(T.out.2.2.1.alloc _).cell 3
   have T3:Hid ((Below w.heap.size w (wr.alloc (.cells #[.int .i64 p.sec,.slice (some (ad wb 0)) p.nw p.nw,.slice (some (ad yb 0)) p.ny p.ny,.slice (some (ad bb 0)) p.nb p.nb,.int .i64 p.hold,.slice (some (ad ob 0)) f.no f.no,.slice (some (ad pb 0)) f.np f.np,.slice none 0 0] 84))/\Box (wr.alloc (.cells #[.int .i64 p.sec,.slice (some (ad wb 0)) p.nw p.nw,.slice (some (ad yb 0)) p.ny p.ny,.slice (some (ad bb 0)) p.nb p.nb,.int .i64 p.hold,.slice (some (ad ob 0)) f.no f.no,.slice (some (ad pb 0)) f.np f.np,.slice none 0 0] 84)) w.heap.size 37 (vPo p wb yb bb)/\Box (wr.alloc (.cells #[.int .i64 p.sec,.slice (some (ad wb 0)) p.nw p.nw,.slice (some (ad yb 0)) p.ny p.ny,.slice (some (ad bb 0)) p.nb p.nb,.int .i64 p.hold,.slice (some (ad ob 0)) f.no f.no,.slice (some (ad pb 0)) f.np f.np,.slice none 0 0] 84)) (w.heap.size+1) 42 #[.bool true,.slice (some (ad ob 0)) f.no f.no,.slice (some (ad pb 0)) f.np f.np,.slice (some (ad hb 0)) f.nh f.nh]/\Box (wr.alloc (.cells #[.int .i64 p.sec,.slice (some (ad wb 0)) p.nw p.nw,.slice (some (ad yb 0)) p.ny p.ny,.slice (some (ad bb 0)) p.nb p.nb,.int .i64 p.hold,.slice (some (ad ob 0)) f.no f.no,.slice (some (ad pb 0)) f.np f.np,.slice none 0 0] 84)) (w.heap.size+1+1) 84 z8v)/\Box (wr.alloc (.cells #[.int .i64 p.sec,.slice (some (ad wb 0)) p.nw p.nw,.slice (some (ad yb 0)) p.ny p.ny,.slice (some (ad bb 0)) p.nb p.nb,.int .i64 p.hold,.slice (some (ad ob 0)) f.no f.no,.slice (some (ad pb 0)) f.np f.np,.slice none 0 0] 84)) wr.heap.size 84 #[.int .i64 p.sec,.slice (some (ad wb 0)) p.nw p.nw,.slice (some (ad yb 0)) p.ny p.ny,.slice (some (ad bb 0)) p.nb p.nb,.int .i64 p.hold,.slice (some (ad ob 0)) f.no f.no,.slice (some (ad pb 0)) f.np f.np,.slice none 0 0]/\WlOwn (wr.heap.size+1) (wr.alloc (.cells #[.int .i64 p.sec,.slice (some (ad wb 0)) p.nw p.nw,.slice (some (ad yb 0)) p.ny p.ny,.slice (some (ad bb 0)) p.nb p.nb,.int .i64 p.hold,.slice (some (ad ob 0)) f.no f.no,.slice (some (ad pb 0)) f.np f.np,.slice none 0 0] 84)) none 0 0 (fun i=>(p.Y i).ns) (stS p f) (fun _=>.nilIface)):=⟨⟨T.out.1.alloc T.out.1.size _,T.out.2.1.alloc _,T.out.2.2.1.alloc _,T.out.2.2.2.alloc _⟩,Box.new _ _ _,⟨VOwn.nil _ _ _ _ _,fun i hi=>absurd hi (Nat.not_lt_zero _),fun _=>rfl⟩⟩
   have hdb:w.heap.size+1+1<wr.heap.size:=T.out.2.2.2.lt
   clear T
   go_wp2_with fail
   generalize wr.alloc (.cells #[.int .i64 p.sec,.slice (some (ad wb 0)) p.nw p.nw,.slice (some (ad yb 0)) p.ny p.ny,.slice (some (ad bb 0)) p.nb p.nb,.int .i64 p.hold,.slice (some (ad ob 0)) f.no f.no,.slice (some (ad pb 0)) f.np f.np,.slice none 0 0] 84)=WD at T3⊢
   clear p0 p1 p2 p3 p4 f1 f2 f3
   obtain⟨db,hdbe⟩:∃db,db=wr.heap.size:=⟨_,rfl⟩
   rw[<-hdbe] at T3 hdb⊢
   clear hdbe hWQ
   go_loopw [78] (fun i wr=>∃(q:Nat) (ia:Option Addr) (ic:Nat) (v:Nat->Value),q<=f.nh/\i=.int .i64 (q:Int)/\Hid (∀k,k<q->stB p f k=true)/\Hid ((Below w.heap.size w wr/\Box wr w.heap.size 37 (vPo p wb yb bb)/\Box wr (w.heap.size+1) 42 #[.bool true,.slice (some (ad ob 0)) f.no f.no,.slice (some (ad pb 0)) f.np f.np,.slice (some (ad hb 0)) f.nh f.nh]/\Box wr (w.heap.size+1+1) 84 z8v)/\Box wr db 84 #[.int .i64 p.sec,.slice (some (ad wb 0)) p.nw p.nw,.slice (some (ad yb 0)) p.ny p.ny,.slice (some (ad bb 0)) p.nb p.nb,.int .i64 p.hold,.slice (some (ad ob 0)) f.no f.no,.slice (some (ad pb 0)) f.np f.np,.slice ia q ic]/\WlOwn (db+1) wr ia q ic (fun i=>(p.Y i).ns) (stS p f) v)) (fun i _=>f.nh-(intOf i).toNat)
   case atStart=>exact⟨0,none,0,_,Nat.zero_le _,rfl,fun i hi=>absurd hi (Nat.not_lt_zero _),T3⟩
   case round=>
    clear T3
    obtain⟨q,ia,ic,v,hq,rfl,HQ2,T⟩:=hrel
    by_cases hlt:q<f.nh
    ·
     have HNO2:Hid (stB p f q=false->R=false):=fun e=>by rw[<-HR3.out,allB_no hlt e];rfl
     obtain⟨vs,hbx,_,_,_,_,hrow⟩:=H.out.1.wy
     obtain⟨b1,b2,b3,b4,b5,hr⟩:=hrow q (by have :=HA.out.2.2.2.2.1;omega)
     have HY0:Hid (w.cell? (ad yb (q*5))=some (.slice (some (ad b1 0)) (p.Y q).ns (p.Y q).ns)/\yb<w.heap.size):=⟨(hbx.cell _).trans hr.c0,hbx.lt⟩
     clear hrow hbx hr
     have hm2:(p.Y q).ns<=1048576:=by have :=(H.out.2.2.1.2.2.1 q (by have :=HA.out.2.2.2.2.1;omega)).1;omega
     have hnb2:(f.Y q).nb<=1048576:=H.out.2.2.2.2.2.2 q hlt
     have HST:Hid (stB p f q=(stateF (f.Y q) (p.Y q).ns p.hold).isSome/\stS p f q=(stateF (f.Y q) (p.Y q).ns p.hold).getD .idle):=⟨rfl,rfl⟩
     obtain⟨m,hm⟩:∃m,Hid ((p.Y q).ns=m):=⟨_,rfl⟩
     obtain⟨k,hk⟩:∃k,Hid (f.Y q=k):=⟨_,rfl⟩
     have HROW:Hid (VOwn (r q) 4 1 w (.slice (some (ad (r q) 0)) k.nb k.nb) k.nb (boolF k.B)):=by rw[<-hk.out];exact(H.out.2.1.h.row q hlt).1
     have HC5:Hid (w.cell? (ad hb (q*5))=some (.int .i64 k.st)/\w.cell? (ad hb (q*5+1))=some (.int .i64 k.gone)/\w.cell? (ad hb (q*5+2))=some (.slice (some (ad (r q) 0)) k.nb k.nb)/\w.cell? (ad hb (q*5+3))=some (.bool k.shown)/\w.cell? (ad hb (q*5+4))=some (.int .i64 k.timer)/\hb<w.heap.size):=by
      rw[<-hk.out]
      have ho:=H.out.2.1.h.own
      refine⟨?_,?_,?_,?_,?_,(ho.lt rfl).2⟩
      ·
       exact ho.cell (i:=q) (j:=0) hlt (by omega)
      ·
       exact ho.cell (i:=q) (j:=1) hlt (by omega)
      ·
       exact ho.cell (i:=q) (j:=2) hlt (by omega)
      ·
       exact ho.cell (i:=q) (j:=3) hlt (by omega)
      ·
       exact ho.cell (i:=q) (j:=4) hlt (by omega)
     rw[hm.out] at HY0 hm2 HST
     rw[hk.out] at hnb2 HST
     have c0:wr.cell? (ad hb (q*5))=some (.int .i64 k.st):=cell_keep T.out.1.1 HC5.out.2.2.2.2.2 HC5.out.1
     have c1:wr.cell? (ad hb (q*5+1))=some (.int .i64 k.gone):=cell_keep T.out.1.1 HC5.out.2.2.2.2.2 HC5.out.2.1
     have c2:wr.cell? (ad hb (q*5+2))=some (.slice (some (ad (r q) 0)) k.nb k.nb):=cell_keep T.out.1.1 HC5.out.2.2.2.2.2 HC5.out.2.2.1
     have c3:wr.cell? (ad hb (q*5+3))=some (.bool k.shown):=cell_keep T.out.1.1 HC5.out.2.2.2.2.2 HC5.out.2.2.2.1
     have c4:wr.cell? (ad hb (q*5+4))=some (.int .i64 k.timer):=cell_keep T.out.1.1 HC5.out.2.2.2.2.2 HC5.out.2.2.2.2.1
     have hq0:(0:Int)<=(q:Int):=by omega
     have hqn:(q:Int)<(f.nh:Int):=by omega
     have hqy:(q:Int)<(p.ny:Int):=by have :=HA.out.2.2.2.2.1;omega
     have TB:Hid (Below wr.heap.size wr (wr.alloc (.cells #[.int .i64 k.st,.int .i64 k.gone,.slice (some (ad (r q) 0)) k.nb k.nb,.bool k.shown,.int .i64 k.timer] 72))/\Box (wr.alloc (.cells #[.int .i64 k.st,.int .i64 k.gone,.slice (some (ad (r q) 0)) k.nb k.nb,.bool k.shown,.int .i64 k.timer] 72)) wr.heap.size 72 #[.int .i64 k.st,.int .i64 k.gone,.slice (some (ad (r q) 0)) k.nb k.nb,.bool k.shown,.int .i64 k.timer]):=⟨bel1 _ _,Box.new _ _ _⟩
     go_wp2_with fail
     generalize (wr.alloc (.cells #[.int .i64 k.st,.int .i64 k.gone,.slice (some (ad (r q) 0)) k.nb k.nb,.bool k.shown,.int .i64 k.timer] 72))=V at TB⊢
     clear c0 c1 c2 c3 c4
     have HT:Hid (∀W,Below V.heap.size V W->((Below w.heap.size w W/\Box W w.heap.size 37 (vPo p wb yb bb)/\Box W (w.heap.size+1) 42 #[.bool true,.slice (some (ad ob 0)) f.no f.no,.slice (some (ad pb 0)) f.np f.np,.slice (some (ad hb 0)) f.nh f.nh]/\Box W (w.heap.size+1+1) 84 z8v)/\Box W db 84 #[.int .i64 p.sec,.slice (some (ad wb 0)) p.nw p.nw,.slice (some (ad yb 0)) p.ny p.ny,.slice (some (ad bb 0)) p.nb p.nb,.int .i64 p.hold,.slice (some (ad ob 0)) f.no f.no,.slice (some (ad pb 0)) f.np f.np,.slice ia q ic]/\WlOwn (db+1) W ia q ic (fun i=>(p.Y i).ns) (stS p f) v)/\Box W wr.heap.size 72 #[.int .i64 k.st,.int .i64 k.gone,.slice (some (ad (r q) 0)) k.nb k.nb,.bool k.shown,.int .i64 k.timer]):=fun W hb=>by
      have hB:Below wr.heap.size wr W:=TB.out.1.trans (hb.mono TB.out.1.size)
      exact⟨⟨⟨T.out.1.1.trans (hB.mono T.out.1.1.size),T.out.1.2.1.mono hB nr,T.out.1.2.2.1.mono hB nr,T.out.1.2.2.2.mono hB nr⟩,T.out.2.1.mono hB nr,T.out.2.2.mono nr hB nr⟩,TB.out.2.mono hb nr⟩
     have HS80:Hid (∀W,Below V.heap.size V W->Calls Tryz.prog 79 #[.agg #[.int .i64 k.st,.int .i64 k.gone,.slice (some (ad (r q) 0)) k.nb k.nb,.bool k.shown,.int .i64 k.timer],.int .i64 (m:Int),.int .i64 p.hold] W fun e w'=>StR W k m p.hold e w'):=fun W hb=>by
      have hB:=(HT.out W hb).1.1.1
      obtain⟨cur,hcur⟩:=HROW.out.box (g:=r q) rfl
      exact state80 k.st k.gone k.nb k.B k.shown k.timer (r q) m p.hold W hnb2 hm2 cur (hcur.mono hB nr) ((HROW.out.vs.le (Nat.zero_le _)).mono nr hB nr)
     have HS:Hid (∀W,Below V.heap.size V W->W.cell? (ad wr.heap.size 0)=some (.int .i64 k.st)/\W.cell? (ad wr.heap.size 1)=some (.int .i64 k.gone)/\W.cell? (ad wr.heap.size 2)=some (.slice (some (ad (r q) 0)) k.nb k.nb)/\W.cell? (ad wr.heap.size 3)=some (.bool k.shown)/\W.cell? (ad wr.heap.size 4)=some (.int .i64 k.timer)/\W.cell? (ad w.heap.size 2)=some (.slice (some (ad yb 0)) p.ny p.ny)/\W.cell? (ad w.heap.size 4)=some (.int .i64 p.hold)/\W.cell? (ad yb (q*5))=some (.slice (some (ad b1 0)) m m)):=fun W hb=>
      ⟨(HT.out W hb).2.cell 0,(HT.out W hb).2.cell 1,(HT.out W hb).2.cell 2,(HT.out W hb).2.cell 3,(HT.out W hb).2.cell 4,(HT.out W hb).1.1.2.1.cell 2,(HT.out W hb).1.1.2.1.cell 4,cell_keep (HT.out W hb).1.1.1 HY0.out.2 HY0.out.1⟩
     obtain⟨s0,s1,s2,s3,s4,s5,s6,s7⟩:=HS.out V (Below.refl _ _)
     have MD:Hid (Below V.heap.size V V.drew):=(Below.refl _ _).drew
     go_region_held3 (fun wx:World=>wx.cell? (ad wr.heap.size 0)=some (.int .i64 k.st)/\wx.cell? (ad wr.heap.size 1)=some (.int .i64 k.gone)/\wx.cell? (ad wr.heap.size 2)=some (.slice (some (ad (r q) 0)) k.nb k.nb)/\wx.cell? (ad wr.heap.size 3)=some (.bool k.shown)/\wx.cell? (ad wr.heap.size 4)=some (.int .i64 k.timer)/\wx.cell? (ad w.heap.size 2)=some (.slice (some (ad yb 0)) p.ny p.ny)/\wx.cell? (ad w.heap.size 4)=some (.int .i64 p.hold)/\wx.cell? (ad yb (q*5))=some (.slice (some (ad b1 0)) m m)) (go_keep) (first
      |(go_at_call 79;refine(HS80.out _ MD.out).mono ?_;rintro e w2 ⟨u,rfl,hb2,hu⟩;have B2:=MD.out.trans (hb2.mono MD.out.size);obtain⟨n0,n1,n2,n3,n4,n5,n6,n7⟩:=HS.out w2 B2))
     have T4:Hid (((Below w.heap.size w w2/\Box w2 w.heap.size 37 (vPo p wb yb bb)/\Box w2 (w.heap.size+1) 42 #[.bool true,.slice (some (ad ob 0)) f.no f.no,.slice (some (ad pb 0)) f.np f.np,.slice (some (ad hb 0)) f.nh f.nh]/\Box w2 (w.heap.size+1+1) 84 z8v)/\Box w2 db 84 #[.int .i64 p.sec,.slice (some (ad wb 0)) p.nw p.nw,.slice (some (ad yb 0)) p.ny p.ny,.slice (some (ad bb 0)) p.nb p.nb,.int .i64 p.hold,.slice (some (ad ob 0)) f.no f.no,.slice (some (ad pb 0)) f.np f.np,.slice ia q ic]/\WlOwn (db+1) w2 ia q ic (fun i=>(p.Y i).ns) (stS p f) v)):=(HT.out w2 B2).1
     have T5:Hid (Below w.heap.size w w2/\Box w2 w.heap.size 37 (vPo p wb yb bb)/\Box w2 (w.heap.size+1) 42 #[.bool true,.slice (some (ad ob 0)) f.no f.no,.slice (some (ad pb 0)) f.np f.np,.slice (some (ad hb 0)) f.nh f.nh]/\Box w2 (w.heap.size+1+1) 84 z8v):=T4.out.1
     clear s0 s1 s2 s3 s4 s5 s6 s7 n0 n1 n2 n3 n4 n5 n6 n7 HS HS80 HT TB B2 hb2 T
     rcases hu with⟨hn,rfl⟩|⟨ss,hss,hw⟩
     ·
      have HF:Hid (R=false):=HNO2.out (by rw[HST.out.1,hn];rfl)
      have e0:w2.cell? (ad 0 0)=some (.iface et ev):=cell_keep T5.out.1 EL.out.2 EL.out.1
      obtain⟨ez0,ez1,ez2,ez3,ez4,ez5,ez6,ez7⟩:=T5.out.2.2.2.c8
      obtain⟨ey0,ey1,ey2,ey3,ey4,ey5,ey6,ey7⟩:=T5.out.2.2.2.f8
      have EF:Hid (Below w.heap.size w ((((((((w2.setCell (ad (w.heap.size+1+1) 0) (.int .i64 0)).setCell (ad (w.heap.size+1+1) 1) (.slice none 0 0)).setCell (ad (w.heap.size+1+1) 2) (.slice none 0 0)).setCell (ad (w.heap.size+1+1) 3) (.slice none 0 0)).setCell (ad (w.heap.size+1+1) 4) (.int .i64 0)).setCell (ad (w.heap.size+1+1) 5) (.slice none 0 0)).setCell (ad (w.heap.size+1+1) 6) (.slice none 0 0)).setCell (ad (w.heap.size+1+1) 7) (.slice none 0 0)).drew/\Box ((((((((w2.setCell (ad (w.heap.size+1+1) 0) (.int .i64 0)).setCell (ad (w.heap.size+1+1) 1) (.slice none 0 0)).setCell (ad (w.heap.size+1+1) 2) (.slice none 0 0)).setCell (ad (w.heap.size+1+1) 3) (.slice none 0 0)).setCell (ad (w.heap.size+1+1) 4) (.int .i64 0)).setCell (ad (w.heap.size+1+1) 5) (.slice none 0 0)).setCell (ad (w.heap.size+1+1) 6) (.slice none 0 0)).setCell (ad (w.heap.size+1+1) 7) (.slice none 0 0)).drew (w.heap.size+1+1) 84 z8v):=⟨(below_set8 T5.out.1 (by omega)).drew,(box_set8 T5.out.2.2.2).drew⟩
      have HER:=HERR.out HF.out
      go_wp2_with fail
      refine wp_region_held_drew (S:=(fun wx:World=>wx.cell? (ad 0 0)=some (.iface et ev))) (by kernel_rfl) ?_ (fun hHeld=>?_)
      ·
       exact e0
      refine tk 0 ?_
      refine tk 1 ?_
      refine rl 2 fun K hK=>?_
      go_simp
      refine hK.out _ _ ?_ (fun hHeld2=>?_)
      ·
       exact cell_keep EF.out.1 EL.out.2 EL.out.1
      clear hK K
      refine tk 3 ?_
      refine wpAnyH_done (by kernel_rfl) ?_ _
      generalize ((((((((w2.setCell (ad (w.heap.size+1+1) 0) (.int .i64 0)).setCell (ad (w.heap.size+1+1) 1) (.slice none 0 0)).setCell (ad (w.heap.size+1+1) 2) (.slice none 0 0)).setCell (ad (w.heap.size+1+1) 3) (.slice none 0 0)).setCell (ad (w.heap.size+1+1) 4) (.int .i64 0)).setCell (ad (w.heap.size+1+1) 5) (.slice none 0 0)).setCell (ad (w.heap.size+1+1) 6) (.slice none 0 0)).setCell (ad (w.heap.size+1+1) 7) (.slice none 0 0)).drew=W9 at EF⊢
      clear ez0 ey0 ez1 ey1 ez2 ey2 ez3 ey3 ez4 ey4 ez5 ey5 ez6 ey6 ez7 ey7 e0
      obtain⟨d0,d1,d2,d3,d4,d5,d6,d7⟩:=EF.out.2.c8
      go_wp2_with fail
      exact bodyPost_ret (v:=.tuple #[.agg #[.int .i64 0,.slice none 0 0,.slice none 0 0,.slice none 0 0,.int .i64 0,.slice none 0 0,.slice none 0 0,.slice none 0 0],.iface et ev]) (by simp[results,Tryz.results42,go_sem,d0,d1,d2,d3,d4,d5,d6,d7]) rfl (HER _ EF.out.1)
     ·
      obtain⟨tt,x,rfl⟩:=hw.one
      obtain⟨j1,hj1,hjz1,hjs1,hjb1⟩:=info_parts infoState
      have d7:=T4.out.2.1.cel 7
      have g7:=T4.out.2.1.free 7
      have HW:Hid (VOwn (db+1) 132 1 w2 (.slice ia q ic) q (fun i _=>(fun i=>if i<q then v i else .iface tt x) i)):=T4.out.2.2.own.congr fun i hi j _=>by simp[hi]
      have hone:∀i,((fun i=>if i<q then v i else .iface tt x) i).oneCell'=true:=fun i=>by
       by_cases c:i<q
       ·
        simp only[c,if_true]
        exact T4.out.2.2.one i
       ·
        simp only[c,if_false]
        rfl
      have HONE:Hid (∀i,((fun i=>if i<q then v i else .iface tt x) i).oneCell'=true):=hone
      clear hone
      have hbx:Box (w2.alloc (.cells #[.iface tt x] 132)) w2.heap.size 132 #[.iface tt x]:=Box.new _ _ _
      have hdz:db+1<=w2.heap.size:=T4.out.2.1.lt
      have HWW:Hid (WsV w2 m ss (.iface tt x)/\stB p f q=true/\stS p f q=ss):=⟨hw,by rw[HST.out.1,hss];rfl,by rw[HST.out.2,hss];rfl⟩
      clear hw
      go_wp2_with(at_builtin;go_must (refine wpList_vapp _ rfl _ _ 82 rfl (db+1) 132 j1 _ 1 16 Tryz.underlying82 hj1 hjz1 hjs1 hjb1 rfl (by decide) (.slice ia q ic) q (fun i _=>(fun i=>if i<q then v i else .iface tt x) i) rfl (HW.out.alloc _) (fun i _=>HONE.out i) w2.heap.size 1 #[.iface tt x] rfl hbx (by simp) (by simp only[maxLen];omega) (by omega) (by simp;omega) (Halt.mk ?_)))
      intro v2 w3 o2 g2
      obtain⟨ia2,ic2,rfl⟩:=o2.val
      have K:∀b TT cur,Box w2 b TT cur->TT≠132->w3.heap[b]?=w2.heap[b]?:=fun b TT cur hb hT=>((hb.alloc (.cells #[.iface tt x] 132)).grown g2 (fun e=>(HW.out.alloc (.cells #[.iface tt x] 132)).off (hb.alloc _) hT e rfl)).trans hb.symm
      have K2:∀b TT cur,Box w2 b TT cur->TT≠132->b≠db->(w3.setCell (ad db 7) (.slice ia2 (q+1) ic2)).heap[b]?=w2.heap[b]?:=fun b TT cur hb hT hne=>(Below.heap_setCell w3 (ad db 7) _ b hne).trans (K b TT cur hb hT)
      have T6:Hid (((Below w.heap.size w (w3.setCell (ad db 7) (.slice ia2 (q+1) ic2))/\Box (w3.setCell (ad db 7) (.slice ia2 (q+1) ic2)) w.heap.size 37 (vPo p wb yb bb)/\Box (w3.setCell (ad db 7) (.slice ia2 (q+1) ic2)) (w.heap.size+1) 42 #[.bool true,.slice (some (ad ob 0)) f.no f.no,.slice (some (ad pb 0)) f.np f.np,.slice (some (ad hb 0)) f.nh f.nh]/\Box (w3.setCell (ad db 7) (.slice ia2 (q+1) ic2)) (w.heap.size+1+1) 84 z8v)/\Box (w3.setCell (ad db 7) (.slice ia2 (q+1) ic2)) db 84 #[.int .i64 p.sec,.slice (some (ad wb 0)) p.nw p.nw,.slice (some (ad yb 0)) p.ny p.ny,.slice (some (ad bb 0)) p.nb p.nb,.int .i64 p.hold,.slice (some (ad ob 0)) f.no f.no,.slice (some (ad pb 0)) f.np f.np,.slice ia2 (q+1) ic2]/\WlOwn (db+1) (w3.setCell (ad db 7) (.slice ia2 (q+1) ic2)) ia2 (q+1) ic2 (fun i=>(p.Y i).ns) (stS p f) (fun i=>if i<q then v i else .iface tt x))):=by
       have hd0:w.heap.size≠db:=by omega
       have hd1:w.heap.size+1≠db:=by omega
       have hd2:w.heap.size+1+1≠db:=by omega
       have hB3:Below w.heap.size w w3:=(T4.out.1.1.alloc T4.out.1.1.size _).grown g2 (by simp;have :=T4.out.1.1.size;omega) (fun j hj=>by have :=(HW.out.lt hj).1;omega)
       refine⟨⟨hB3.setCell (by show w.heap.size<=db;omega) _,T4.out.1.2.1.keep (K2 _ _ _ T4.out.1.2.1 (by decide) hd0),T4.out.1.2.2.1.keep (K2 _ _ _ T4.out.1.2.2.1 (by decide) hd1),T4.out.1.2.2.2.keep (K2 _ _ _ T4.out.1.2.2.2 (by decide) hd2)⟩,?_,?_,fun i hi=>?_,HONE.out⟩
       ·
        have :=(T4.out.2.1.keep (K _ _ _ T4.out.2.1 (by decide))).set 7 (.slice ia2 (q+1) ic2)
        simpa using this
       ·
        exact o2.set (T4.out.2.1.keep (K _ _ _ T4.out.2.1 (by decide))) (by decide) 7 _
       ·
        have hk4:∀b cur,Box w2 b 4 cur->(w3.setCell (ad db 7) (.slice ia2 (q+1) ic2)).heap[b]?=w2.heap[b]?:=fun b cur hb=>K2 b 4 cur hb (by decide) (hb.ne T4.out.2.1 (by decide))
        by_cases c:i<q
        ·
         simp only[c,if_true]
         exact(T4.out.2.2.ws i c).by_ hk4
        ·
         obtain rfl:i=q:=by omega
         simp only[Nat.lt_irrefl,if_false]
         rw[HWW.out.2.2,hm.out]
         exact HWW.out.1.by_ hk4
      have HQ3:Hid (∀k,k<q+1->stB p f k=true):=fun k hk=>by
       by_cases c:k=q
       ·
        subst c
        exact HWW.out.2.1
       ·
        exact HQ2.out k (by omega)
      have x7:w3.cell? (ad db 7)=some (.slice ia q ic):=(T4.out.2.1.keep (K _ _ _ T4.out.2.1 (by decide))).cell 7
      have x8:w3.frozen? (ad db 7)=false:=(T4.out.2.1.keep (K _ _ _ T4.out.2.1 (by decide))).free 7
      clear K K2 o2 g2 HW hbx d7 g7 T4 T5
      go_wp2_with fail
      go_roundw
      case rel=>exact⟨q+1,ia2,ic2,_,by omega,by go_num,HQ3,T6⟩
      case measure=>simp[intOf];omega
    ·
     obtain rfl:q=f.nh:=by omega
     have HR4:Hid ((!clashD p (stS p f)&&allB (fun i=>sameB (setS p f i) (f.Y i)) f.nh)=R):=by
      rw[Hid,<-HR3.out,allB_iff.2 HQ2.out,Bool.true_and]
     have hok:Hid p.Ok:=planF_ok HA.out.1
     have HTW:Hid (∀W,Below wr.heap.size wr W->((Below w.heap.size w W/\Box W w.heap.size 37 (vPo p wb yb bb)/\Box W (w.heap.size+1) 42 #[.bool true,.slice (some (ad ob 0)) f.no f.no,.slice (some (ad pb 0)) f.np f.np,.slice (some (ad hb 0)) f.nh f.nh]/\Box W (w.heap.size+1+1) 84 z8v)/\Box W db 84 #[.int .i64 p.sec,.slice (some (ad wb 0)) p.nw p.nw,.slice (some (ad yb 0)) p.ny p.ny,.slice (some (ad bb 0)) p.nb p.nb,.int .i64 p.hold,.slice (some (ad ob 0)) f.no f.no,.slice (some (ad pb 0)) f.np f.np,.slice ia f.nh ic]/\WlOwn (db+1) W ia f.nh ic (fun i=>(p.Y i).ns) (stS p f) v)):=fun W hB=>⟨⟨T.out.1.1.trans (hB.mono T.out.1.1.size),T.out.1.2.1.mono hB nr,T.out.1.2.2.1.mono hB nr,T.out.1.2.2.2.mono hB nr⟩,T.out.2.1.mono hB nr,T.out.2.2.mono nr hB nr⟩
     have hnhe:Hid (f.nh=p.ny):=HA.out.2.2.2.2.1
     have HINN:Hid (∀k,k<p.ny->(p.Y k).In f.no f.np/\1<=(p.Y k).ns/\∀g B sh,stS p f k=.used g B sh->g<=(p.Y k).ns):=fun k hk=>by
      have h2:=wayF_in (hok.out.way k hk)
      have e1:p.sec.toNat=f.no:=by have :=HA.out.2.2.1;omega
      rw[e1,<-HA.out.2.2.2.1] at h2
      refine⟨h2.2,h2.1,fun g B sh hs=>?_⟩
      obtain⟨s,hst⟩:=Option.isSome_iff_exists.1 (HQ2.out k (by have :=hnhe.out;omega))
      rw[stS,hst] at hs
      obtain⟨_,hcs⟩:=stateF_cases hst
      rcases hcs with⟨_,rfl⟩|⟨_,rfl⟩|⟨_,rfl⟩|⟨_,rfl,_⟩|⟨_,rfl,h3,h4,_⟩<;>simp at hs
      obtain⟨rfl,_,_⟩:=hs
      omega
     have HCL:Hid (∀W,Below wr.heap.size wr W->Calls Tryz.prog 80 #[.agg #[.int .i64 p.sec,.slice (some (ad wb 0)) p.nw p.nw,.slice (some (ad yb 0)) p.ny p.ny,.slice (some (ad bb 0)) p.nb p.nb,.int .i64 p.hold,.slice (some (ad ob 0)) f.no f.no,.slice (some (ad pb 0)) f.np f.np,.slice ia f.nh ic]] W fun e w'=>e=.returned (.bool (clashD p (stS p f)))/\Below W.heap.size W w'):=fun W hB=>by
      have h1:=(HTW.out W hB)
      rw[hnhe.out] at h1⊢
      exact clash81 p wb yb bb lo rr _ _ _ _ _ _ ia ic (stS p f) (fun i=>(p.Y i).ns) W H.out.2.2.1 hok.out (H.out.1.mono nr h1.1.1 nr) h1.2.2.at
     have HSE:Hid (∀W,Below wr.heap.size wr W->Calls Tryz.prog 82 #[.agg #[.int .i64 p.sec,.slice (some (ad wb 0)) p.nw p.nw,.slice (some (ad yb 0)) p.ny p.ny,.slice (some (ad bb 0)) p.nb p.nb,.int .i64 p.hold,.slice (some (ad ob 0)) f.no f.no,.slice (some (ad pb 0)) f.np f.np,.slice ia f.nh ic]] W fun e w'=>∃ua uc vv,e=.returned (.agg #[.int .i64 p.sec,.slice (some (ad wb 0)) p.nw p.nw,.slice (some (ad yb 0)) p.ny p.ny,.slice (some (ad bb 0)) p.nb p.nb,.int .i64 p.hold,.slice (some (ad ob 0)) f.no f.no,.slice (some (ad pb 0)) f.np f.np,.slice ua f.nh uc])/\WlOwn W.heap.size w' ua f.nh uc (fun i=>(p.Y i).ns) (fun i=>WS.settle ⟨(p.Y i).ns,fun k=>f.O ((p.Y i).S k).toNat,prvB (p.Y i) f.O f.P⟩ (stS p f i)) vv/\Below W.heap.size W w'):=fun W hB=>by
      have h1:=(HTW.out W hB)
      rw[hnhe.out] at h1⊢
      exact settle58 p wb yb bb lo rr _ _ _ _ _ _ ia ic f.O f.P (stS p f) v (db+1) W H.out.2.2.1 (H.out.1.mono nr h1.1.1 nr) ((H.out.2.1.o.vs.le (Nat.zero_le _)).mono nr h1.1.1 nr) ((H.out.2.1.p.vs.le (Nat.zero_le _)).mono nr h1.1.1 nr) HINN.out H.out.2.2.2.1 H.out.2.2.2.2.1 h1.2.2
     have HHE:Hid (∀(M:Nat) (W:World) ua uc vv,Below wr.heap.size wr W->WlOwn M W ua f.nh uc (fun i=>(p.Y i).ns) (fun i=>WS.settle ⟨(p.Y i).ns,fun k=>f.O ((p.Y i).S k).toNat,prvB (p.Y i) f.O f.P⟩ (stS p f i)) vv->Calls Tryz.prog 83 #[.agg #[.int .i64 p.sec,.slice (some (ad wb 0)) p.nw p.nw,.slice (some (ad yb 0)) p.ny p.ny,.slice (some (ad bb 0)) p.nb p.nb,.int .i64 p.hold,.slice (some (ad ob 0)) f.no f.no,.slice (some (ad pb 0)) f.np f.np,.slice ua f.nh uc]] W fun e w'=>∃ha hc r' rc',e=.returned (.slice ha f.nh hc)/\HsG W.heap.size w' (.slice ha f.nh hc) f.nh (setS p f) r' rc'/\Below W.heap.size W w'):=fun M W ua uc vv hB hW=>by
      have h1:=(HTW.out W hB)
      rw[hnhe.out] at h1 hW⊢
      exact held83 p wb yb bb lo rr _ _ _ _ _ _ ua uc (fun i=>WS.settle ⟨(p.Y i).ns,fun k=>f.O ((p.Y i).S k).toNat,prvB (p.Y i) f.O f.P⟩ (stS p f i)) vv M W H.out.2.2.1 HA.out.2.2.2.2.2 (H.out.1.mono nr h1.1.1 nr) (fun i hi=>(HINN.out i hi).2.1) hW
     have HEQ:Hid (∀(M:Nat) (W:World) ha hc r' rc',Below wr.heap.size wr W->HsG M W (.slice ha f.nh hc) f.nh (setS p f) r' rc'->Calls Tryz.prog 81 #[.slice ha f.nh hc,.slice (some (ad hb 0)) f.nh f.nh,.func (.func 84) #[] #[]] W fun e w'=>e=.returned (.bool (allB (fun i=>sameB (setS p f i) (f.Y i)) f.nh))/\Below W.heap.size W w'):=fun M W ha hc r' rc' hB hG=>
      equalFunc82 ha _ f.nh hc f.nh (setS p f) f.Y W hnh (fun i hi=>by
       obtain⟨s,hst⟩:=Option.isSome_iff_exists.1 (HQ2.out i hi)
       have e1:(f.Y i).nb=(p.Y i).ns:=(stateF_cases hst).1
       have e2:(setS p f i).nb=(p.Y i).ns:=held_nb' _ _
       exact⟨by rw[e1,e2],by rw[e2,<-e1];exact H.out.2.2.2.2.2.2 i hi⟩) hG.hs ((H.out.2.1.h.at nr).mono nr (HTW.out W hB).1.1 nr)
     have HS:Hid (∀W,Below wr.heap.size wr W->W.cell? (ad db 0)=some (.int .i64 p.sec)/\W.cell? (ad db 1)=some (.slice (some (ad wb 0)) p.nw p.nw)/\W.cell? (ad db 2)=some (.slice (some (ad yb 0)) p.ny p.ny)/\W.cell? (ad db 3)=some (.slice (some (ad bb 0)) p.nb p.nb)/\W.cell? (ad db 4)=some (.int .i64 p.hold)/\W.cell? (ad db 5)=some (.slice (some (ad ob 0)) f.no f.no)/\W.cell? (ad db 6)=some (.slice (some (ad pb 0)) f.np f.np)/\W.cell? (ad db 7)=some (.slice ia f.nh ic)/\W.cell? (ad (w.heap.size+1) 3)=some (.slice (some (ad hb 0)) f.nh f.nh)):=fun W hB=>⟨(HTW.out W hB).2.1.cell 0,(HTW.out W hB).2.1.cell 1,(HTW.out W hB).2.1.cell 2,(HTW.out W hB).2.1.cell 3,(HTW.out W hB).2.1.cell 4,(HTW.out W hB).2.1.cell 5,(HTW.out W hB).2.1.cell 6,(HTW.out W hB).2.1.cell 7,(HTW.out W hB).1.2.2.1.cell 3⟩
     obtain⟨s0,s1,s2,s3,s4,s5,s6,s7,s8⟩:=HS.out wr (Below.refl _ _)
     have MD:Hid (Below wr.heap.size wr wr.drew):=(Below.refl _ _).drew
     go_wp2_with fail
     cases hcl:clashD p (stS p f) with
     |true=>
      have HF:Hid (R=false):=by rw[Hid,<-HR4.out,hcl];rfl
      rw[hcl] at HCL
      refine wp_region_held_drew (S:=(fun wx:World=>wx.cell? (ad db 0)=some (.int .i64 p.sec)/\wx.cell? (ad db 1)=some (.slice (some (ad wb 0)) p.nw p.nw)/\wx.cell? (ad db 2)=some (.slice (some (ad yb 0)) p.ny p.ny)/\wx.cell? (ad db 3)=some (.slice (some (ad bb 0)) p.nb p.nb)/\wx.cell? (ad db 4)=some (.int .i64 p.hold)/\wx.cell? (ad db 5)=some (.slice (some (ad ob 0)) f.no f.no)/\wx.cell? (ad db 6)=some (.slice (some (ad pb 0)) f.np f.np)/\wx.cell? (ad db 7)=some (.slice ia f.nh ic)/\wx.cell? (ad (w.heap.size+1) 3)=some (.slice (some (ad hb 0)) f.nh f.nh))) (by kernel_rfl) ?_ (fun hHeld=>?_)
      ·
       exact⟨s0,s1,s2,s3,s4,s5,s6,s7,s8⟩
      refine tk 0 ?_
      refine rl 1 fun K hK=>?_
      go_simp
      refine(HCL.out _ MD.out).mono ?_
      rintro e w2 ⟨rfl,hb2⟩
      have B2:=MD.out.trans (hb2.mono MD.out.size)
      go_wp2_with fail
      refine hK.out _ _ ?_ (fun hHeld1=>?_)
      ·
       exact HS.out w2 B2
      clear hK K
      refine tk 2 ?_
      refine tf 3 ?_
      refine tf 4 ?_
      refine tf 5 ?_
      refine tf 6 ?_
      refine tf 7 ?_
      refine tf 8 ?_
      refine tf 9 ?_
      refine tk 10 ?_
      refine wpAnyH_done (by kernel_rfl) ?_ _
      have T5:Hid (Below w.heap.size w w2/\Box w2 w.heap.size 37 (vPo p wb yb bb)/\Box w2 (w.heap.size+1) 42 #[.bool true,.slice (some (ad ob 0)) f.no f.no,.slice (some (ad pb 0)) f.np f.np,.slice (some (ad hb 0)) f.nh f.nh]/\Box w2 (w.heap.size+1+1) 84 z8v):=(HTW.out w2 B2).1
      clear s0 s1 s2 s3 s4 s5 s6 s7 s8
      have e0:w2.cell? (ad 0 0)=some (.iface et ev):=cell_keep T5.out.1 EL.out.2 EL.out.1
      obtain⟨ez0,ez1,ez2,ez3,ez4,ez5,ez6,ez7⟩:=T5.out.2.2.2.c8
      obtain⟨ey0,ey1,ey2,ey3,ey4,ey5,ey6,ey7⟩:=T5.out.2.2.2.f8
      have EF:Hid (Below w.heap.size w ((((((((w2.setCell (ad (w.heap.size+1+1) 0) (.int .i64 0)).setCell (ad (w.heap.size+1+1) 1) (.slice none 0 0)).setCell (ad (w.heap.size+1+1) 2) (.slice none 0 0)).setCell (ad (w.heap.size+1+1) 3) (.slice none 0 0)).setCell (ad (w.heap.size+1+1) 4) (.int .i64 0)).setCell (ad (w.heap.size+1+1) 5) (.slice none 0 0)).setCell (ad (w.heap.size+1+1) 6) (.slice none 0 0)).setCell (ad (w.heap.size+1+1) 7) (.slice none 0 0)).drew/\Box ((((((((w2.setCell (ad (w.heap.size+1+1) 0) (.int .i64 0)).setCell (ad (w.heap.size+1+1) 1) (.slice none 0 0)).setCell (ad (w.heap.size+1+1) 2) (.slice none 0 0)).setCell (ad (w.heap.size+1+1) 3) (.slice none 0 0)).setCell (ad (w.heap.size+1+1) 4) (.int .i64 0)).setCell (ad (w.heap.size+1+1) 5) (.slice none 0 0)).setCell (ad (w.heap.size+1+1) 6) (.slice none 0 0)).setCell (ad (w.heap.size+1+1) 7) (.slice none 0 0)).drew (w.heap.size+1+1) 84 z8v):=⟨(below_set8 T5.out.1 (by omega)).drew,(box_set8 T5.out.2.2.2).drew⟩
      have HER:=HERR.out HF.out
      go_wp2_with fail
      refine wp_region_held_drew (S:=(fun wx:World=>wx.cell? (ad 0 0)=some (.iface et ev))) (by kernel_rfl) ?_ (fun hHeld=>?_)
      ·
       exact e0
      refine tk 0 ?_
      refine tk 1 ?_
      refine rl 2 fun K hK=>?_
      go_simp
      refine hK.out _ _ ?_ (fun hHeld2=>?_)
      ·
       exact cell_keep EF.out.1 EL.out.2 EL.out.1
      clear hK K
      refine tk 3 ?_
      refine wpAnyH_done (by kernel_rfl) ?_ _
      generalize ((((((((w2.setCell (ad (w.heap.size+1+1) 0) (.int .i64 0)).setCell (ad (w.heap.size+1+1) 1) (.slice none 0 0)).setCell (ad (w.heap.size+1+1) 2) (.slice none 0 0)).setCell (ad (w.heap.size+1+1) 3) (.slice none 0 0)).setCell (ad (w.heap.size+1+1) 4) (.int .i64 0)).setCell (ad (w.heap.size+1+1) 5) (.slice none 0 0)).setCell (ad (w.heap.size+1+1) 6) (.slice none 0 0)).setCell (ad (w.heap.size+1+1) 7) (.slice none 0 0)).drew=W9 at EF⊢
      clear ez0 ey0 ez1 ey1 ez2 ey2 ez3 ey3 ez4 ey4 ez5 ey5 ez6 ey6 ez7 ey7 e0
      obtain⟨d0,d1,d2,d3,d4,d5,d6,d7⟩:=EF.out.2.c8
      go_wp2_with fail
      exact bodyPost_ret (v:=.tuple #[.agg #[.int .i64 0,.slice none 0 0,.slice none 0 0,.slice none 0 0,.int .i64 0,.slice none 0 0,.slice none 0 0,.slice none 0 0],.iface et ev]) (by simp[results,Tryz.results42,go_sem,d0,d1,d2,d3,d4,d5,d6,d7]) rfl (HER _ EF.out.1)
     |false=>
      rw[hcl] at HCL HR4
      have HR5:Hid (allB (fun i=>sameB (setS p f i) (f.Y i)) f.nh=R):=by rw[Hid,<-HR4.out];simp
      rw[HR5.out] at HEQ
      refine wp_region_held_drew (S:=(fun wx:World=>wx.cell? (ad db 0)=some (.int .i64 p.sec)/\wx.cell? (ad db 1)=some (.slice (some (ad wb 0)) p.nw p.nw)/\wx.cell? (ad db 2)=some (.slice (some (ad yb 0)) p.ny p.ny)/\wx.cell? (ad db 3)=some (.slice (some (ad bb 0)) p.nb p.nb)/\wx.cell? (ad db 4)=some (.int .i64 p.hold)/\wx.cell? (ad db 5)=some (.slice (some (ad ob 0)) f.no f.no)/\wx.cell? (ad db 6)=some (.slice (some (ad pb 0)) f.np f.np)/\wx.cell? (ad db 7)=some (.slice ia f.nh ic)/\wx.cell? (ad (w.heap.size+1) 3)=some (.slice (some (ad hb 0)) f.nh f.nh))) (by kernel_rfl) ?_ (fun hHeld=>?_)
      ·
       exact⟨s0,s1,s2,s3,s4,s5,s6,s7,s8⟩
      refine tk 0 ?_
      refine rl 1 fun K hK=>?_
      go_simp
      refine(HCL.out _ MD.out).mono ?_
      rintro e w2 ⟨rfl,hb2⟩
      have B2:=MD.out.trans (hb2.mono MD.out.size)
      go_wp2_with fail
      refine hK.out _ _ ?_ (fun hHeld1=>?_)
      ·
       exact HS.out w2 B2
      clear hK K
      refine tk 2 ?_
      refine tk 3 ?_
      refine tk 6 ?_
      refine tk 7 ?_
      refine rl 4 fun K hK=>?_
      go_simp
      refine(HSE.out _ B2).mono ?_
      rintro e w3 ⟨ua,uc,vv,rfl,hw3,hb3⟩
      have B3:=B2.trans (hb3.mono B2.size)
      go_wp2_with fail
      refine hK.out _ _ ?_ (fun hHeld4=>?_)
      ·
       exact HS.out w3 B3
      clear hK K
      refine rl 5 fun K hK=>?_
      go_simp
      refine(HHE.out _ _ ua uc vv B3 hw3).mono ?_
      rintro e w4 ⟨ha,hc,r',rc',rfl,hg4,hb4⟩
      have B4:=B3.trans (hb4.mono B3.size)
      go_wp2_with fail
      refine hK.out _ _ ?_ (fun hHeld5=>?_)
      ·
       exact HS.out w4 B4
      clear hK K
      refine rl 8 fun K hK=>?_
      go_simp
      refine(HEQ.out _ _ ha hc r' rc' B4 hg4).mono ?_
      rintro e w5 ⟨rfl,hb5⟩
      have B5:=B4.trans (hb5.mono B4.size)
      go_wp2_with fail
      refine hK.out _ _ ?_ (fun hHeld8=>?_)
      ·
       exact HS.out w5 B5
      clear hK K
      refine tk 9 ?_
      refine tk 10 ?_
      refine wpAnyH_done (by kernel_rfl) ?_ _
      have T5:Hid (Below w.heap.size w w5/\Box w5 w.heap.size 37 (vPo p wb yb bb)/\Box w5 (w.heap.size+1) 42 #[.bool true,.slice (some (ad ob 0)) f.no f.no,.slice (some (ad pb 0)) f.np f.np,.slice (some (ad hb 0)) f.nh f.nh]/\Box w5 (w.heap.size+1+1) 84 z8v):=(HTW.out w5 B5).1
      have T6:Hid ((Below w.heap.size w w5/\Box w5 w.heap.size 37 (vPo p wb yb bb)/\Box w5 (w.heap.size+1) 42 #[.bool true,.slice (some (ad ob 0)) f.no f.no,.slice (some (ad pb 0)) f.np f.np,.slice (some (ad hb 0)) f.nh f.nh]/\Box w5 (w.heap.size+1+1) 84 z8v)/\Box w5 db 84 #[.int .i64 p.sec,.slice (some (ad wb 0)) p.nw p.nw,.slice (some (ad yb 0)) p.ny p.ny,.slice (some (ad bb 0)) p.nb p.nb,.int .i64 p.hold,.slice (some (ad ob 0)) f.no f.no,.slice (some (ad pb 0)) f.np f.np,.slice ia f.nh ic]/\WlOwn (db+1) w5 ia f.nh ic (fun i=>(p.Y i).ns) (stS p f) v):=HTW.out w5 B5
      clear s0 s1 s2 s3 s4 s5 s6 s7 s8 HCL HSE HHE HEQ hw3 hg4 hb2 hb3 hb4 hb5 B2 B3 B4 B5
      cases hRr:R with
      |false=>
       have HF:Hid (R=false):=hRr
       have e0:w5.cell? (ad 0 0)=some (.iface et ev):=cell_keep T5.out.1 EL.out.2 EL.out.1
       obtain⟨ez0,ez1,ez2,ez3,ez4,ez5,ez6,ez7⟩:=T5.out.2.2.2.c8
       obtain⟨ey0,ey1,ey2,ey3,ey4,ey5,ey6,ey7⟩:=T5.out.2.2.2.f8
       have EF:Hid (Below w.heap.size w ((((((((w5.setCell (ad (w.heap.size+1+1) 0) (.int .i64 0)).setCell (ad (w.heap.size+1+1) 1) (.slice none 0 0)).setCell (ad (w.heap.size+1+1) 2) (.slice none 0 0)).setCell (ad (w.heap.size+1+1) 3) (.slice none 0 0)).setCell (ad (w.heap.size+1+1) 4) (.int .i64 0)).setCell (ad (w.heap.size+1+1) 5) (.slice none 0 0)).setCell (ad (w.heap.size+1+1) 6) (.slice none 0 0)).setCell (ad (w.heap.size+1+1) 7) (.slice none 0 0)).drew/\Box ((((((((w5.setCell (ad (w.heap.size+1+1) 0) (.int .i64 0)).setCell (ad (w.heap.size+1+1) 1) (.slice none 0 0)).setCell (ad (w.heap.size+1+1) 2) (.slice none 0 0)).setCell (ad (w.heap.size+1+1) 3) (.slice none 0 0)).setCell (ad (w.heap.size+1+1) 4) (.int .i64 0)).setCell (ad (w.heap.size+1+1) 5) (.slice none 0 0)).setCell (ad (w.heap.size+1+1) 6) (.slice none 0 0)).setCell (ad (w.heap.size+1+1) 7) (.slice none 0 0)).drew (w.heap.size+1+1) 84 z8v):=⟨(below_set8 T5.out.1 (by omega)).drew,(box_set8 T5.out.2.2.2).drew⟩
       have HER:=HERR.out HF.out
       go_wp2_with fail
       refine wp_region_held_drew (S:=(fun wx:World=>wx.cell? (ad 0 0)=some (.iface et ev))) (by kernel_rfl) ?_ (fun hHeld=>?_)
       ·
        exact e0
       refine tk 0 ?_
       refine tk 1 ?_
       refine rl 2 fun K hK=>?_
       go_simp
       refine hK.out _ _ ?_ (fun hHeld2=>?_)
       ·
        exact cell_keep EF.out.1 EL.out.2 EL.out.1
       clear hK K
       refine tk 3 ?_
       refine wpAnyH_done (by kernel_rfl) ?_ _
       generalize ((((((((w5.setCell (ad (w.heap.size+1+1) 0) (.int .i64 0)).setCell (ad (w.heap.size+1+1) 1) (.slice none 0 0)).setCell (ad (w.heap.size+1+1) 2) (.slice none 0 0)).setCell (ad (w.heap.size+1+1) 3) (.slice none 0 0)).setCell (ad (w.heap.size+1+1) 4) (.int .i64 0)).setCell (ad (w.heap.size+1+1) 5) (.slice none 0 0)).setCell (ad (w.heap.size+1+1) 6) (.slice none 0 0)).setCell (ad (w.heap.size+1+1) 7) (.slice none 0 0)).drew=W9 at EF⊢
       clear ez0 ey0 ez1 ey1 ez2 ey2 ez3 ey3 ez4 ey4 ez5 ey5 ez6 ey6 ez7 ey7 e0
       obtain⟨d0,d1,d2,d3,d4,d5,d6,d7⟩:=EF.out.2.c8
       go_wp2_with fail
       exact bodyPost_ret (v:=.tuple #[.agg #[.int .i64 0,.slice none 0 0,.slice none 0 0,.slice none 0 0,.int .i64 0,.slice none 0 0,.slice none 0 0,.slice none 0 0],.iface et ev]) (by simp[results,Tryz.results42,go_sem,d0,d1,d2,d3,d4,d5,d6,d7]) rfl (HER _ EF.out.1)
      |true=>
       have HFR:Hid (frameB p f=true):=by rw[Hid,<-desk_frame,HR.out,hRr]
       obtain⟨x0,x1,x2,x3,x4,x5,x6,x7⟩:=T6.out.2.1.c8
       obtain⟨z0,z1,z2,z3,z4,z5,z6,z7⟩:=T6.out.1.2.2.2.c8
       obtain⟨y0,y1,y2,y3,y4,y5,y6,y7⟩:=T6.out.1.2.2.2.f8
       have hd2:w.heap.size+1+1≠db:=by omega
       have HFS:Hid (Below w.heap.size w ((((((((w5.setCell (ad (w.heap.size+1+1) 0) (.int .i64 p.sec)).setCell (ad (w.heap.size+1+1) 1) (.slice (some (ad wb 0)) p.nw p.nw)).setCell (ad (w.heap.size+1+1) 2) (.slice (some (ad yb 0)) p.ny p.ny)).setCell (ad (w.heap.size+1+1) 3) (.slice (some (ad bb 0)) p.nb p.nb)).setCell (ad (w.heap.size+1+1) 4) (.int .i64 p.hold)).setCell (ad (w.heap.size+1+1) 5) (.slice (some (ad ob 0)) f.no f.no)).setCell (ad (w.heap.size+1+1) 6) (.slice (some (ad pb 0)) f.np f.np)).setCell (ad (w.heap.size+1+1) 7) (.slice ia f.nh ic))/\Box ((((((((w5.setCell (ad (w.heap.size+1+1) 0) (.int .i64 p.sec)).setCell (ad (w.heap.size+1+1) 1) (.slice (some (ad wb 0)) p.nw p.nw)).setCell (ad (w.heap.size+1+1) 2) (.slice (some (ad yb 0)) p.ny p.ny)).setCell (ad (w.heap.size+1+1) 3) (.slice (some (ad bb 0)) p.nb p.nb)).setCell (ad (w.heap.size+1+1) 4) (.int .i64 p.hold)).setCell (ad (w.heap.size+1+1) 5) (.slice (some (ad ob 0)) f.no f.no)).setCell (ad (w.heap.size+1+1) 6) (.slice (some (ad pb 0)) f.np f.np)).setCell (ad (w.heap.size+1+1) 7) (.slice ia f.nh ic)) (w.heap.size+1+1) 84 #[.int .i64 p.sec,.slice (some (ad wb 0)) p.nw p.nw,.slice (some (ad yb 0)) p.ny p.ny,.slice (some (ad bb 0)) p.nb p.nb,.int .i64 p.hold,.slice (some (ad ob 0)) f.no f.no,.slice (some (ad pb 0)) f.np f.np,.slice ia f.nh ic]/\WlOwn w.heap.size ((((((((w5.setCell (ad (w.heap.size+1+1) 0) (.int .i64 p.sec)).setCell (ad (w.heap.size+1+1) 1) (.slice (some (ad wb 0)) p.nw p.nw)).setCell (ad (w.heap.size+1+1) 2) (.slice (some (ad yb 0)) p.ny p.ny)).setCell (ad (w.heap.size+1+1) 3) (.slice (some (ad bb 0)) p.nb p.nb)).setCell (ad (w.heap.size+1+1) 4) (.int .i64 p.hold)).setCell (ad (w.heap.size+1+1) 5) (.slice (some (ad ob 0)) f.no f.no)).setCell (ad (w.heap.size+1+1) 6) (.slice (some (ad pb 0)) f.np f.np)).setCell (ad (w.heap.size+1+1) 7) (.slice ia f.nh ic)) ia f.nh ic (fun i=>(p.Y i).ns) (stS p f) v):=by
        refine⟨below_set8 T6.out.1.1 (by omega),box_set8 T6.out.1.2.2.2,?_,fun i hi=>?_,T6.out.2.2.one⟩
        ·
         exact(T6.out.2.2.own.by_ fun b cur hb=>heap_set8 (hb.ne T6.out.1.2.2.2 (by decide))).keep (by omega) fun _ _=>rfl
        ·
         exact(T6.out.2.2.ws i hi).by_ fun b cur hb=>heap_set8 (hb.ne T6.out.1.2.2.2 (by decide))
       have HRES:Hid (DkG p f wb yb bb ob pb et ev w (.returned (.tuple #[.agg #[.int .i64 p.sec,.slice (some (ad wb 0)) p.nw p.nw,.slice (some (ad yb 0)) p.ny p.ny,.slice (some (ad bb 0)) p.nb p.nb,.int .i64 p.hold,.slice (some (ad ob 0)) f.no f.no,.slice (some (ad pb 0)) f.np f.np,.slice ia f.nh ic],.nilIface])) ((((((((w5.setCell (ad (w.heap.size+1+1) 0) (.int .i64 p.sec)).setCell (ad (w.heap.size+1+1) 1) (.slice (some (ad wb 0)) p.nw p.nw)).setCell (ad (w.heap.size+1+1) 2) (.slice (some (ad yb 0)) p.ny p.ny)).setCell (ad (w.heap.size+1+1) 3) (.slice (some (ad bb 0)) p.nb p.nb)).setCell (ad (w.heap.size+1+1) 4) (.int .i64 p.hold)).setCell (ad (w.heap.size+1+1) 5) (.slice (some (ad ob 0)) f.no f.no)).setCell (ad (w.heap.size+1+1) 6) (.slice (some (ad pb 0)) f.np f.np)).setCell (ad (w.heap.size+1+1) 7) (.slice ia f.nh ic))):=⟨HFS.out.1,.inr ⟨HFR.out,ia,ic,v,rfl,HFS.out.2.2⟩⟩
       go_wp2_with fail
       generalize ((((((((w5.setCell (ad (w.heap.size+1+1) 0) (.int .i64 p.sec)).setCell (ad (w.heap.size+1+1) 1) (.slice (some (ad wb 0)) p.nw p.nw)).setCell (ad (w.heap.size+1+1) 2) (.slice (some (ad yb 0)) p.ny p.ny)).setCell (ad (w.heap.size+1+1) 3) (.slice (some (ad bb 0)) p.nb p.nb)).setCell (ad (w.heap.size+1+1) 4) (.int .i64 p.hold)).setCell (ad (w.heap.size+1+1) 5) (.slice (some (ad ob 0)) f.no f.no)).setCell (ad (w.heap.size+1+1) 6) (.slice (some (ad pb 0)) f.np f.np)).setCell (ad (w.heap.size+1+1) 7) (.slice ia f.nh ic))=WZ at HFS HRES⊢
       clear x0 z0 y0 x1 z1 y1 x2 z2 y2 x3 z3 y3 x4 z4 y4 x5 z5 y5 x6 z6 y6 x7 z7 y7
       obtain⟨d0,d1,d2,d3,d4,d5,d6,d7⟩:=HFS.out.2.1.c8
       exact bodyPost_ret (v:=.tuple #[.agg #[.int .i64 p.sec,.slice (some (ad wb 0)) p.nw p.nw,.slice (some (ad yb 0)) p.ny p.ny,.slice (some (ad bb 0)) p.nb p.nb,.int .i64 p.hold,.slice (some (ad ob 0)) f.no f.no,.slice (some (ad pb 0)) f.np f.np,.slice ia f.nh ic],.nilIface]) (by simp[results,Tryz.results42,go_sem,d0,d1,d2,d3,d4,d5,d6,d7]) rfl HRES.out
end Go.Proofs.YtkeilejbelblcaaGreatDoor
