import Derived.Test.YtkeilejbelblcaaGreatDoorK11
namespace Go.Proofs.YtkeilejbelblcaaGreatDoor
open Go.RowKit Go.Lib
theorem box_set5 {w:World}{b:Nat}{T:TypeId}{z0 z1 z2 z3 z4 v0 v1 v2 v3 v4:Value}(h:Box w b T #[z0,z1,z2,z3,z4]):Box (((((w.setCell (ad b 0) (v0)).setCell (ad b 1) (v1)).setCell (ad b 2) (v2)).setCell (ad b 3) (v3)).setCell (ad b 4) (v4)) b T #[v0,v1,v2,v3,v4]:=by
 have h7:=((((h.set 0 v0).set 1 v1).set 2 v2).set 3 v3).set 4 v4
 simpa using h7
theorem heap_set5 {w:World}{b g:Nat}{v0 v1 v2 v3 v4:Value}(h:g≠b):(((((w.setCell (ad b 0) (v0)).setCell (ad b 1) (v1)).setCell (ad b 2) (v2)).setCell (ad b 3) (v3)).setCell (ad b 4) (v4)).heap[g]?=w.heap[g]?:=by
 have k:∀(u:World) (i:Nat) (v:Value),(u.setCell (ad b i) v).heap[g]?=u.heap[g]?:=fun u i v=>Below.heap_setCell u (ad b i) v g h
 rw[k,k,k,k,k]
theorem below_set5 {M:Nat}{w0 w:World}{b:Nat}{v0 v1 v2 v3 v4:Value}(h:Below M w0 w) (hb:M<=b):Below M w0 (((((w.setCell (ad b 0) (v0)).setCell (ad b 1) (v1)).setCell (ad b 2) (v2)).setCell (ad b 3) (v3)).setCell (ad b 4) (v4)):=by
 have k:∀ {u:World}(i:Nat) (v:Value),Below M w0 u->Below M w0 (u.setCell (ad b i) v):=fun i v hu=>hu.setCell (show M<=((ad b i):Addr).block from hb) v
 exact k 4 _ (k 3 _ (k 2 _ (k 1 _ (k 0 _ h))))
def HlR (w:World) (h:Hl) (e:Ending) (w':World):Prop:=
 ∃rb rc,e=.returned (.agg #[.int .i64 h.st,.int .i64 h.gone,.slice (some (ad rb 0)) h.nb rc,.bool h.shown,.int .i64 h.timer])/\w.heap.size<=rb/\VOwn rb 4 1 w' (.slice (some (ad rb 0)) h.nb rc) h.nb (boolF h.B)/\Below w.heap.size w w'
set_option maxHeartbeats 2000000 in
theorem idleH191 (n:Nat) (w:World) (hn:n<=1048576):Calls Tryz.prog 192 #[.agg #[],.int .i64 (n:Int)] w fun e w'=>HlR w (WS.held n .idle) e w':=by
 have hmk:=make_rows (P:=Tryz.prog) 27 4 _ 1 1 Tryz.underlying27 infoBool n (by omega) (by omega)
 simp only[Nat.mul_one] at hmk
 have HR:Hid (HlR w (WS.held n .idle) (.returned (.agg #[.int .i64 0,.int .i64 0,.slice (some (ad (w.heap.size+1+1) 0)) n n,.bool false,.int .i64 0])) (((w.alloc (.cells #[] 161)).alloc (.cells #[.int .i64 0,.int .i64 0,.slice (some (ad (w.heap.size+1+1) 0)) n n,.bool false,.int .i64 0] 72)).alloc (.cells (mk0 (.bool false) n) 4))):=by
  have hbx:Box (((w.alloc (.cells #[] 161)).alloc (.cells #[.int .i64 0,.int .i64 0,.slice (some (ad (w.heap.size+1+1) 0)) n n,.bool false,.int .i64 0] 72)).alloc (.cells (mk0 (.bool false) n) 4)) (w.heap.size+1+1) 4 (mk0 (.bool false) n):=by have :=Box.new ((w.alloc (.cells #[] 161)).alloc (.cells #[.int .i64 0,.int .i64 0,.slice (some (ad (w.heap.size+1+1) 0)) n n,.bool false,.int .i64 0] 72)) 4 (mk0 (.bool false) n);simpa using this
  exact⟨_,_,rfl,by omega,VOwn.made hbx hn,bel3 w _ _ _⟩
 have BX:Box (((w.alloc (.cells #[] 161)).alloc (.cells #[.int .i64 0,.int .i64 0,.slice (some (ad (w.heap.size+1+1) 0)) n n,.bool false,.int .i64 0] 72)).alloc (.cells (mk0 (.bool false) n) 4)) (w.heap.size+1) 72 #[.int .i64 0,.int .i64 0,.slice (some (ad (w.heap.size+1+1) 0)) n n,.bool false,.int .i64 0]:=by have :=(Box.new (w.alloc (.cells #[] 161)) 72 #[.int .i64 0,.int .i64 0,.slice (some (ad (w.heap.size+1+1) 0)) n n,.bool false,.int .i64 0]).alloc (.cells (mk0 (.bool false) n) 4);simpa using this
 have d0:(((w.alloc (.cells #[] 161)).alloc (.cells #[.int .i64 0,.int .i64 0,.slice (some (ad (w.heap.size+1+1) 0)) n n,.bool false,.int .i64 0] 72)).alloc (.cells (mk0 (.bool false) n) 4)).cell? (ad (w.heap.size+1) 0)=some (.int .i64 0):=BX.cell 0
 have d1:(((w.alloc (.cells #[] 161)).alloc (.cells #[.int .i64 0,.int .i64 0,.slice (some (ad (w.heap.size+1+1) 0)) n n,.bool false,.int .i64 0] 72)).alloc (.cells (mk0 (.bool false) n) 4)).cell? (ad (w.heap.size+1) 1)=some (.int .i64 0):=BX.cell 1
 have d2:(((w.alloc (.cells #[] 161)).alloc (.cells #[.int .i64 0,.int .i64 0,.slice (some (ad (w.heap.size+1+1) 0)) n n,.bool false,.int .i64 0] 72)).alloc (.cells (mk0 (.bool false) n) 4)).cell? (ad (w.heap.size+1) 2)=some (.slice (some (ad (w.heap.size+1+1) 0)) n n):=BX.cell 2
 have d3:(((w.alloc (.cells #[] 161)).alloc (.cells #[.int .i64 0,.int .i64 0,.slice (some (ad (w.heap.size+1+1) 0)) n n,.bool false,.int .i64 0] 72)).alloc (.cells (mk0 (.bool false) n) 4)).cell? (ad (w.heap.size+1) 3)=some (.bool false):=BX.cell 3
 have d4:(((w.alloc (.cells #[] 161)).alloc (.cells #[.int .i64 0,.int .i64 0,.slice (some (ad (w.heap.size+1+1) 0)) n n,.bool false,.int .i64 0] 72)).alloc (.cells (mk0 (.bool false) n) 4)).cell? (ad (w.heap.size+1) 4)=some (.int .i64 0):=BX.cell 4
 clear BX
 go_enter Tryz.func192,Tryz.ntmps192
 go_wp2_with fail
 exact bodyPost_ret (v:=.agg #[.int .i64 0,.int .i64 0,.slice (some (ad (w.heap.size+1+1) 0)) n n,.bool false,.int .i64 0]) (by simp[results,Tryz.results192,go_sem,d0,d1,d2,d3,d4]) rfl HR.out
set_option maxHeartbeats 2000000 in
theorem clearH201 (n:Nat) (w:World) (hn:n<=1048576):Calls Tryz.prog 202 #[.agg #[],.int .i64 (n:Int)] w fun e w'=>HlR w (WS.held n .clear) e w':=by
 have hmk:=make_rows (P:=Tryz.prog) 27 4 _ 1 1 Tryz.underlying27 infoBool n (by omega) (by omega)
 simp only[Nat.mul_one] at hmk
 have HR:Hid (HlR w (WS.held n .clear) (.returned (.agg #[.int .i64 2,.int .i64 0,.slice (some (ad (w.heap.size+1+1) 0)) n n,.bool true,.int .i64 0])) (((w.alloc (.cells #[] 164)).alloc (.cells #[.int .i64 2,.int .i64 0,.slice (some (ad (w.heap.size+1+1) 0)) n n,.bool true,.int .i64 0] 72)).alloc (.cells (mk0 (.bool false) n) 4))):=by
  have hbx:Box (((w.alloc (.cells #[] 164)).alloc (.cells #[.int .i64 2,.int .i64 0,.slice (some (ad (w.heap.size+1+1) 0)) n n,.bool true,.int .i64 0] 72)).alloc (.cells (mk0 (.bool false) n) 4)) (w.heap.size+1+1) 4 (mk0 (.bool false) n):=by have :=Box.new ((w.alloc (.cells #[] 164)).alloc (.cells #[.int .i64 2,.int .i64 0,.slice (some (ad (w.heap.size+1+1) 0)) n n,.bool true,.int .i64 0] 72)) 4 (mk0 (.bool false) n);simpa using this
  exact⟨_,_,rfl,by omega,VOwn.made hbx hn,bel3 w _ _ _⟩
 have BX:Box (((w.alloc (.cells #[] 164)).alloc (.cells #[.int .i64 2,.int .i64 0,.slice (some (ad (w.heap.size+1+1) 0)) n n,.bool true,.int .i64 0] 72)).alloc (.cells (mk0 (.bool false) n) 4)) (w.heap.size+1) 72 #[.int .i64 2,.int .i64 0,.slice (some (ad (w.heap.size+1+1) 0)) n n,.bool true,.int .i64 0]:=by have :=(Box.new (w.alloc (.cells #[] 164)) 72 #[.int .i64 2,.int .i64 0,.slice (some (ad (w.heap.size+1+1) 0)) n n,.bool true,.int .i64 0]).alloc (.cells (mk0 (.bool false) n) 4);simpa using this
 have d0:(((w.alloc (.cells #[] 164)).alloc (.cells #[.int .i64 2,.int .i64 0,.slice (some (ad (w.heap.size+1+1) 0)) n n,.bool true,.int .i64 0] 72)).alloc (.cells (mk0 (.bool false) n) 4)).cell? (ad (w.heap.size+1) 0)=some (.int .i64 2):=BX.cell 0
 have d1:(((w.alloc (.cells #[] 164)).alloc (.cells #[.int .i64 2,.int .i64 0,.slice (some (ad (w.heap.size+1+1) 0)) n n,.bool true,.int .i64 0] 72)).alloc (.cells (mk0 (.bool false) n) 4)).cell? (ad (w.heap.size+1) 1)=some (.int .i64 0):=BX.cell 1
 have d2:(((w.alloc (.cells #[] 164)).alloc (.cells #[.int .i64 2,.int .i64 0,.slice (some (ad (w.heap.size+1+1) 0)) n n,.bool true,.int .i64 0] 72)).alloc (.cells (mk0 (.bool false) n) 4)).cell? (ad (w.heap.size+1) 2)=some (.slice (some (ad (w.heap.size+1+1) 0)) n n):=BX.cell 2
 have d3:(((w.alloc (.cells #[] 164)).alloc (.cells #[.int .i64 2,.int .i64 0,.slice (some (ad (w.heap.size+1+1) 0)) n n,.bool true,.int .i64 0] 72)).alloc (.cells (mk0 (.bool false) n) 4)).cell? (ad (w.heap.size+1) 3)=some (.bool true):=BX.cell 3
 have d4:(((w.alloc (.cells #[] 164)).alloc (.cells #[.int .i64 2,.int .i64 0,.slice (some (ad (w.heap.size+1+1) 0)) n n,.bool true,.int .i64 0] 72)).alloc (.cells (mk0 (.bool false) n) 4)).cell? (ad (w.heap.size+1) 4)=some (.int .i64 0):=BX.cell 4
 clear BX
 go_enter Tryz.func202,Tryz.ntmps202
 go_wp2_with fail
 exact bodyPost_ret (v:=.agg #[.int .i64 2,.int .i64 0,.slice (some (ad (w.heap.size+1+1) 0)) n n,.bool true,.int .i64 0]) (by simp[results,Tryz.results202,go_sem,d0,d1,d2,d3,d4]) rfl HR.out
set_option maxRecDepth 100000 in
set_option maxHeartbeats 4000000 in
theorem setH194 (sh:Bool) (n:Nat) (w:World) (hn:n<=1048576):Calls Tryz.prog 195 #[.agg #[.bool sh],.int .i64 (n:Int)] w fun e w'=>HlR w (WS.held n (.set sh)) e w':=by
 have hmk:=make_rows (P:=Tryz.prog) 27 4 _ 1 1 Tryz.underlying27 infoBool n (by omega) (by omega)
 simp only[Nat.mul_one] at hmk
 have SX:Hid (Below w.heap.size w ((w.alloc (.cells #[.bool sh] 163)).alloc (.cells zhv 72))/\Box ((w.alloc (.cells #[.bool sh] 163)).alloc (.cells zhv 72)) w.heap.size 163 #[.bool sh]/\Box ((w.alloc (.cells #[.bool sh] 163)).alloc (.cells zhv 72)) (w.heap.size+1) 72 zhv):=⟨bel2 _ _ _,(Box.new _ _ _).alloc _,by have :=Box.new (w.alloc (.cells #[.bool sh] 163)) 72 zhv;simpa using this⟩
 have hsz:((w.alloc (.cells #[.bool sh] 163)).alloc (.cells zhv 72)).heap.size=w.heap.size+1+1:=by simp
 go_enter Tryz.func195,Tryz.ntmps195
 go_wp2_with fail
 generalize ((w.alloc (.cells #[.bool sh] 163)).alloc (.cells zhv 72))=W at *
 have u0:W.cell? (ad w.heap.size 0)=some (.bool sh):=SX.out.2.1.cell 0
 have SY:Hid (Below w.heap.size w (W.alloc (.cells (mk0 (.bool false) n) 4))/\Box (W.alloc (.cells (mk0 (.bool false) n) 4)) w.heap.size 163 #[.bool sh]/\Box (W.alloc (.cells (mk0 (.bool false) n) 4)) (w.heap.size+1) 72 zhv/\Box (W.alloc (.cells (mk0 (.bool false) n) 4)) (w.heap.size+1+1) 4 (mk0 (.bool false) n)):=⟨SX.out.1.alloc SX.out.1.size _,SX.out.2.1.alloc _,SX.out.2.2.alloc _,by rw[<-hsz];exact Box.new _ _ _⟩
 have q0:(W.alloc (.cells (mk0 (.bool false) n) 4)).cell? (ad (w.heap.size+1) 0)=some (.int .i64 0):=SY.out.2.2.1.cell 0
 have g0:=SY.out.2.2.1.free 0
 have q1:(W.alloc (.cells (mk0 (.bool false) n) 4)).cell? (ad (w.heap.size+1) 1)=some (.int .i64 0):=SY.out.2.2.1.cell 1
 have g1:=SY.out.2.2.1.free 1
 have q2:(W.alloc (.cells (mk0 (.bool false) n) 4)).cell? (ad (w.heap.size+1) 2)=some (.slice none 0 0):=SY.out.2.2.1.cell 2
 have g2:=SY.out.2.2.1.free 2
 have q3:(W.alloc (.cells (mk0 (.bool false) n) 4)).cell? (ad (w.heap.size+1) 3)=some (.bool false):=SY.out.2.2.1.cell 3
 have g3:=SY.out.2.2.1.free 3
 have q4:(W.alloc (.cells (mk0 (.bool false) n) 4)).cell? (ad (w.heap.size+1) 4)=some (.int .i64 0):=SY.out.2.2.1.cell 4
 have g4:=SY.out.2.2.1.free 4
 refine wp_region_held_drew (S:=(fun wx:World=>wx.cell? (ad w.heap.size 0)=some (.bool sh))) (by kernel_rfl) ?_ (fun hHeld=>?_)
 ·
  exact u0
 refine tk 0 ?_
 refine tk 2 ?_
 refine tk 3 ?_
 refine rl 1 fun K hK=>?_
 go_wp2_with fail
 refine hK.out _ _ ?_ (fun hHeld1=>?_)
 ·
  exact SY.out.2.1.cell 0
 clear hK K
 generalize (W.alloc (.cells (mk0 (.bool false) n) 4))=V at *
 have HF:Hid (Below w.heap.size w (((((V.setCell (ad (w.heap.size+1) 0) (.int .i64 1)).setCell (ad (w.heap.size+1) 1) (.int .i64 0)).setCell (ad (w.heap.size+1) 2) (.slice (some (ad (w.heap.size+1+1) 0)) n n)).setCell (ad (w.heap.size+1) 3) (.bool sh)).setCell (ad (w.heap.size+1) 4) (.int .i64 0)).drew/\Box (((((V.setCell (ad (w.heap.size+1) 0) (.int .i64 1)).setCell (ad (w.heap.size+1) 1) (.int .i64 0)).setCell (ad (w.heap.size+1) 2) (.slice (some (ad (w.heap.size+1+1) 0)) n n)).setCell (ad (w.heap.size+1) 3) (.bool sh)).setCell (ad (w.heap.size+1) 4) (.int .i64 0)).drew (w.heap.size+1) 72 #[.int .i64 1,.int .i64 0,.slice (some (ad (w.heap.size+1+1) 0)) n n,.bool sh,.int .i64 0]/\Box (((((V.setCell (ad (w.heap.size+1) 0) (.int .i64 1)).setCell (ad (w.heap.size+1) 1) (.int .i64 0)).setCell (ad (w.heap.size+1) 2) (.slice (some (ad (w.heap.size+1+1) 0)) n n)).setCell (ad (w.heap.size+1) 3) (.bool sh)).setCell (ad (w.heap.size+1) 4) (.int .i64 0)).drew w.heap.size 163 #[.bool sh]/\Box (((((V.setCell (ad (w.heap.size+1) 0) (.int .i64 1)).setCell (ad (w.heap.size+1) 1) (.int .i64 0)).setCell (ad (w.heap.size+1) 2) (.slice (some (ad (w.heap.size+1+1) 0)) n n)).setCell (ad (w.heap.size+1) 3) (.bool sh)).setCell (ad (w.heap.size+1) 4) (.int .i64 0)).drew (w.heap.size+1+1) 4 (mk0 (.bool false) n)):=⟨(below_set5 SY.out.1 (by omega)).drew,(box_set5 SY.out.2.2.1).drew,(SY.out.2.1.keep (heap_set5 (by omega))).drew,(SY.out.2.2.2.keep (heap_set5 (by omega))).drew⟩
 refine tk 4 ?_
 refine rl 5 fun K hK=>?_
 go_simp
 refine hK.out _ _ ?_ (fun hHeld5=>?_)
 ·
  exact HF.out.2.2.1.cell 0
 clear hK K
 refine wpAnyH_done (by kernel_rfl) ?_ _
 generalize (((((V.setCell (ad (w.heap.size+1) 0) (.int .i64 1)).setCell (ad (w.heap.size+1) 1) (.int .i64 0)).setCell (ad (w.heap.size+1) 2) (.slice (some (ad (w.heap.size+1+1) 0)) n n)).setCell (ad (w.heap.size+1) 3) (.bool sh)).setCell (ad (w.heap.size+1) 4) (.int .i64 0)).drew=W9 at *
 have d0:W9.cell? (ad (w.heap.size+1) 0)=some (.int .i64 1):=HF.out.2.1.cell 0
 have d1:W9.cell? (ad (w.heap.size+1) 1)=some (.int .i64 0):=HF.out.2.1.cell 1
 have d2:W9.cell? (ad (w.heap.size+1) 2)=some (.slice (some (ad (w.heap.size+1+1) 0)) n n):=HF.out.2.1.cell 2
 have d3:W9.cell? (ad (w.heap.size+1) 3)=some (.bool sh):=HF.out.2.1.cell 3
 have d4:W9.cell? (ad (w.heap.size+1) 4)=some (.int .i64 0):=HF.out.2.1.cell 4
 have HR:Hid (HlR w (WS.held n (.set sh)) (.returned (.agg #[.int .i64 1,.int .i64 0,.slice (some (ad (w.heap.size+1+1) 0)) n n,.bool sh,.int .i64 0])) W9):=⟨w.heap.size+1+1,n,rfl,by omega,VOwn.made HF.out.2.2.2 hn,HF.out.1⟩
 go_wp2_with fail
 exact bodyPost_ret (v:=.agg #[.int .i64 1,.int .i64 0,.slice (some (ad (w.heap.size+1+1) 0)) n n,.bool sh,.int .i64 0]) (by simp[results,Tryz.results195,go_sem,d0,d1,d2,d3,d4]) rfl HR.out
set_option maxRecDepth 100000 in
set_option maxHeartbeats 4000000 in
theorem takingH204 (t:Int) (n:Nat) (w:World) (hn:n<=1048576):Calls Tryz.prog 205 #[.agg #[.int .i64 t],.int .i64 (n:Int)] w fun e w'=>HlR w (WS.held n (.taking t)) e w':=by
 have hmk:=make_rows (P:=Tryz.prog) 27 4 _ 1 1 Tryz.underlying27 infoBool n (by omega) (by omega)
 simp only[Nat.mul_one] at hmk
 have SX:Hid (Below w.heap.size w ((w.alloc (.cells #[.int .i64 t] 166)).alloc (.cells zhv 72))/\Box ((w.alloc (.cells #[.int .i64 t] 166)).alloc (.cells zhv 72)) w.heap.size 166 #[.int .i64 t]/\Box ((w.alloc (.cells #[.int .i64 t] 166)).alloc (.cells zhv 72)) (w.heap.size+1) 72 zhv):=⟨bel2 _ _ _,(Box.new _ _ _).alloc _,by have :=Box.new (w.alloc (.cells #[.int .i64 t] 166)) 72 zhv;simpa using this⟩
 have hsz:((w.alloc (.cells #[.int .i64 t] 166)).alloc (.cells zhv 72)).heap.size=w.heap.size+1+1:=by simp
 go_enter Tryz.func205,Tryz.ntmps205
 go_wp2_with fail
 generalize ((w.alloc (.cells #[.int .i64 t] 166)).alloc (.cells zhv 72))=W at *
 have u0:W.cell? (ad w.heap.size 0)=some (.int .i64 t):=SX.out.2.1.cell 0
 have SY:Hid (Below w.heap.size w (W.alloc (.cells (mk0 (.bool false) n) 4))/\Box (W.alloc (.cells (mk0 (.bool false) n) 4)) w.heap.size 166 #[.int .i64 t]/\Box (W.alloc (.cells (mk0 (.bool false) n) 4)) (w.heap.size+1) 72 zhv/\Box (W.alloc (.cells (mk0 (.bool false) n) 4)) (w.heap.size+1+1) 4 (mk0 (.bool false) n)):=⟨SX.out.1.alloc SX.out.1.size _,SX.out.2.1.alloc _,SX.out.2.2.alloc _,by rw[<-hsz];exact Box.new _ _ _⟩
 have q0:(W.alloc (.cells (mk0 (.bool false) n) 4)).cell? (ad (w.heap.size+1) 0)=some (.int .i64 0):=SY.out.2.2.1.cell 0
 have g0:=SY.out.2.2.1.free 0
 have q1:(W.alloc (.cells (mk0 (.bool false) n) 4)).cell? (ad (w.heap.size+1) 1)=some (.int .i64 0):=SY.out.2.2.1.cell 1
 have g1:=SY.out.2.2.1.free 1
 have q2:(W.alloc (.cells (mk0 (.bool false) n) 4)).cell? (ad (w.heap.size+1) 2)=some (.slice none 0 0):=SY.out.2.2.1.cell 2
 have g2:=SY.out.2.2.1.free 2
 have q3:(W.alloc (.cells (mk0 (.bool false) n) 4)).cell? (ad (w.heap.size+1) 3)=some (.bool false):=SY.out.2.2.1.cell 3
 have g3:=SY.out.2.2.1.free 3
 have q4:(W.alloc (.cells (mk0 (.bool false) n) 4)).cell? (ad (w.heap.size+1) 4)=some (.int .i64 0):=SY.out.2.2.1.cell 4
 have g4:=SY.out.2.2.1.free 4
 refine wp_region_held_drew (S:=(fun wx:World=>wx.cell? (ad w.heap.size 0)=some (.int .i64 t))) (by kernel_rfl) ?_ (fun hHeld=>?_)
 ·
  exact u0
 refine tk 0 ?_
 refine tk 2 ?_
 refine tk 3 ?_
 refine rl 1 fun K hK=>?_
 go_wp2_with fail
 refine hK.out _ _ ?_ (fun hHeld1=>?_)
 ·
  exact SY.out.2.1.cell 0
 clear hK K
 generalize (W.alloc (.cells (mk0 (.bool false) n) 4))=V at *
 have HF:Hid (Below w.heap.size w (((((V.setCell (ad (w.heap.size+1) 0) (.int .i64 3)).setCell (ad (w.heap.size+1) 1) (.int .i64 0)).setCell (ad (w.heap.size+1) 2) (.slice (some (ad (w.heap.size+1+1) 0)) n n)).setCell (ad (w.heap.size+1) 3) (.bool true)).setCell (ad (w.heap.size+1) 4) (.int .i64 t)).drew/\Box (((((V.setCell (ad (w.heap.size+1) 0) (.int .i64 3)).setCell (ad (w.heap.size+1) 1) (.int .i64 0)).setCell (ad (w.heap.size+1) 2) (.slice (some (ad (w.heap.size+1+1) 0)) n n)).setCell (ad (w.heap.size+1) 3) (.bool true)).setCell (ad (w.heap.size+1) 4) (.int .i64 t)).drew (w.heap.size+1) 72 #[.int .i64 3,.int .i64 0,.slice (some (ad (w.heap.size+1+1) 0)) n n,.bool true,.int .i64 t]/\Box (((((V.setCell (ad (w.heap.size+1) 0) (.int .i64 3)).setCell (ad (w.heap.size+1) 1) (.int .i64 0)).setCell (ad (w.heap.size+1) 2) (.slice (some (ad (w.heap.size+1+1) 0)) n n)).setCell (ad (w.heap.size+1) 3) (.bool true)).setCell (ad (w.heap.size+1) 4) (.int .i64 t)).drew w.heap.size 166 #[.int .i64 t]/\Box (((((V.setCell (ad (w.heap.size+1) 0) (.int .i64 3)).setCell (ad (w.heap.size+1) 1) (.int .i64 0)).setCell (ad (w.heap.size+1) 2) (.slice (some (ad (w.heap.size+1+1) 0)) n n)).setCell (ad (w.heap.size+1) 3) (.bool true)).setCell (ad (w.heap.size+1) 4) (.int .i64 t)).drew (w.heap.size+1+1) 4 (mk0 (.bool false) n)):=⟨(below_set5 SY.out.1 (by omega)).drew,(box_set5 SY.out.2.2.1).drew,(SY.out.2.1.keep (heap_set5 (by omega))).drew,(SY.out.2.2.2.keep (heap_set5 (by omega))).drew⟩
 refine tk 4 ?_
 refine rl 5 fun K hK=>?_
 go_simp
 refine hK.out _ _ ?_ (fun hHeld5=>?_)
 ·
  exact HF.out.2.2.1.cell 0
 clear hK K
 refine wpAnyH_done (by kernel_rfl) ?_ _
 generalize (((((V.setCell (ad (w.heap.size+1) 0) (.int .i64 3)).setCell (ad (w.heap.size+1) 1) (.int .i64 0)).setCell (ad (w.heap.size+1) 2) (.slice (some (ad (w.heap.size+1+1) 0)) n n)).setCell (ad (w.heap.size+1) 3) (.bool true)).setCell (ad (w.heap.size+1) 4) (.int .i64 t)).drew=W9 at *
 have d0:W9.cell? (ad (w.heap.size+1) 0)=some (.int .i64 3):=HF.out.2.1.cell 0
 have d1:W9.cell? (ad (w.heap.size+1) 1)=some (.int .i64 0):=HF.out.2.1.cell 1
 have d2:W9.cell? (ad (w.heap.size+1) 2)=some (.slice (some (ad (w.heap.size+1+1) 0)) n n):=HF.out.2.1.cell 2
 have d3:W9.cell? (ad (w.heap.size+1) 3)=some (.bool true):=HF.out.2.1.cell 3
 have d4:W9.cell? (ad (w.heap.size+1) 4)=some (.int .i64 t):=HF.out.2.1.cell 4
 have HR:Hid (HlR w (WS.held n (.taking t)) (.returned (.agg #[.int .i64 3,.int .i64 0,.slice (some (ad (w.heap.size+1+1) 0)) n n,.bool true,.int .i64 t])) W9):=⟨w.heap.size+1+1,n,rfl,by omega,VOwn.made HF.out.2.2.2 hn,HF.out.1⟩
 go_wp2_with fail
 exact bodyPost_ret (v:=.agg #[.int .i64 3,.int .i64 0,.slice (some (ad (w.heap.size+1+1) 0)) n n,.bool true,.int .i64 t]) (by simp[results,Tryz.results205,go_sem,d0,d1,d2,d3,d4]) rfl HR.out
theorem VOwn.up {B:Nat}{e:TypeId}{c:Nat}{w:World}{g n cap:Nat}{F:Nat->Nat->Value}(h:VOwn B e c w (.slice (some (ad g 0)) n cap) n F):VOwn g e c w (.slice (some (ad g 0)) n cap) n F:=by
 rcases h with⟨h1,_⟩|⟨g',cp,cur,h1,_,h3,h4⟩
 ·
  cases h1
 ·
  simp only[Value.slice.injEq,Option.some.injEq,Addr.mk.injEq,and_true,true_and] at h1
  obtain⟨rfl,rfl⟩:=h1
  exact .inr ⟨g,cap,cur,rfl,Nat.le_refl _,h3,h4⟩
set_option maxRecDepth 100000 in
set_option maxHeartbeats 4000000 in
theorem usedH207 (g rb n cap:Nat) (B:Nat->Bool) (sh:Bool) (m:Int) (w:World) (hn1:1<=n) (hn:n<=1048576) (hB:VsAt 1 0 w (some (ad rb 0)) n (boolF B)):
  Calls Tryz.prog 208 #[.agg #[.int .i64 (g:Int),.slice (some (ad rb 0)) n cap,.bool sh],.int .i64 m] w fun e w'=>HlR w (WS.held n (.used g B sh)) e w':=by
 have SX:Hid (Below w.heap.size w ((w.alloc (.cells #[.int .i64 (g:Int),.slice (some (ad rb 0)) n cap,.bool sh] 169)).alloc (.cells zhv 72))/\Box ((w.alloc (.cells #[.int .i64 (g:Int),.slice (some (ad rb 0)) n cap,.bool sh] 169)).alloc (.cells zhv 72)) w.heap.size 169 #[.int .i64 (g:Int),.slice (some (ad rb 0)) n cap,.bool sh]/\Box ((w.alloc (.cells #[.int .i64 (g:Int),.slice (some (ad rb 0)) n cap,.bool sh] 169)).alloc (.cells zhv 72)) (w.heap.size+1) 72 zhv):=⟨bel2 _ _ _,(Box.new _ _ _).alloc _,by have :=Box.new (w.alloc (.cells #[.int .i64 (g:Int),.slice (some (ad rb 0)) n cap,.bool sh] 169)) 72 zhv;simpa using this⟩
 have HB:Hid (VsAt 1 0 w (some (ad rb 0)) n (boolF B)):=hB
 clear hB
 go_enter Tryz.func208,Tryz.ntmps208
 go_wp2_with fail
 generalize ((w.alloc (.cells #[.int .i64 (g:Int),.slice (some (ad rb 0)) n cap,.bool sh] 169)).alloc (.cells zhv 72))=W at *
 have u0:W.cell? (ad w.heap.size 0)=some (.int .i64 (g:Int)):=SX.out.2.1.cell 0
 have u1:W.cell? (ad w.heap.size 1)=some (.slice (some (ad rb 0)) n cap):=SX.out.2.1.cell 1
 have u2:W.cell? (ad w.heap.size 2)=some (.bool sh):=SX.out.2.1.cell 2
 have hszW:w.heap.size+1<W.heap.size:=SX.out.2.2.lt
 refine wp_region_held_drew (S:=(fun wx:World=>wx.cell? (ad w.heap.size 0)=some (.int .i64 (g:Int))/\wx.cell? (ad w.heap.size 1)=some (.slice (some (ad rb 0)) n cap)/\wx.cell? (ad w.heap.size 2)=some (.bool sh))) (by kernel_rfl) ?_ (fun hHeld=>?_)
 ·
  exact⟨u0,u1,u2⟩
 refine tk 0 ?_
 refine tk 1 ?_
 refine tk 2 ?_
 refine tk 3 ?_
 refine tk 5 ?_
 refine tk 6 ?_
 refine rl 4 fun K hK=>?_
 go_simp
 go_at_call 135
 refine(clone123 rb 0 n cap B _ hn (HB.out.mono nr SX.out.1.drew nr)).mono ?_
 rintro e w1 ⟨v,rfl,hv,hb1⟩
 obtain⟨va,nc,rfl⟩:=hv.val
 obtain⟨nb,rfl,hnb,hnl⟩:=hv.addr (by omega)
 have SY:Hid (Below w.heap.size w w1/\Box w1 w.heap.size 169 #[.int .i64 (g:Int),.slice (some (ad rb 0)) n cap,.bool sh]/\Box w1 (w.heap.size+1) 72 zhv/\VOwn nb 4 1 w1 (.slice (some (ad nb 0)) n nc) n (boolF B)/\w.heap.size+1<nb):=⟨SX.out.1.drew.trans (hb1.mono SX.out.1.drew.size),SX.out.2.1.drew.mono hb1 nr,SX.out.2.2.drew.mono hb1 nr,VOwn.up hv,Nat.lt_of_lt_of_le hszW hnb⟩
 go_wp2_with fail
 refine hK.out _ _ ?_ (fun hHeld4=>?_)
 ·
  exact d3 SY.out.2.1
 clear hK K
 clear hv hb1
 have q0:w1.cell? (ad (w.heap.size+1) 0)=some (.int .i64 0):=SY.out.2.2.1.cell 0
 have q1:w1.cell? (ad (w.heap.size+1) 1)=some (.int .i64 0):=SY.out.2.2.1.cell 1
 have q2:w1.cell? (ad (w.heap.size+1) 2)=some (.slice none 0 0):=SY.out.2.2.1.cell 2
 have q3:w1.cell? (ad (w.heap.size+1) 3)=some (.bool false):=SY.out.2.2.1.cell 3
 have q4:w1.cell? (ad (w.heap.size+1) 4)=some (.int .i64 0):=SY.out.2.2.1.cell 4
 obtain⟨g0,g1,g2,g3,g4⟩:=SY.out.2.2.1.f5
 have HF:Hid (Below w.heap.size w (((((w1.setCell (ad (w.heap.size+1) 0) (.int .i64 4)).setCell (ad (w.heap.size+1) 1) (.int .i64 (g:Int))).setCell (ad (w.heap.size+1) 2) (.slice (some (ad nb 0)) n nc)).setCell (ad (w.heap.size+1) 3) (.bool sh)).setCell (ad (w.heap.size+1) 4) (.int .i64 0))/\Box (((((w1.setCell (ad (w.heap.size+1) 0) (.int .i64 4)).setCell (ad (w.heap.size+1) 1) (.int .i64 (g:Int))).setCell (ad (w.heap.size+1) 2) (.slice (some (ad nb 0)) n nc)).setCell (ad (w.heap.size+1) 3) (.bool sh)).setCell (ad (w.heap.size+1) 4) (.int .i64 0)) (w.heap.size+1) 72 #[.int .i64 4,.int .i64 (g:Int),.slice (some (ad nb 0)) n nc,.bool sh,.int .i64 0]/\Box (((((w1.setCell (ad (w.heap.size+1) 0) (.int .i64 4)).setCell (ad (w.heap.size+1) 1) (.int .i64 (g:Int))).setCell (ad (w.heap.size+1) 2) (.slice (some (ad nb 0)) n nc)).setCell (ad (w.heap.size+1) 3) (.bool sh)).setCell (ad (w.heap.size+1) 4) (.int .i64 0)) w.heap.size 169 #[.int .i64 (g:Int),.slice (some (ad rb 0)) n cap,.bool sh]/\VOwn nb 4 1 (((((w1.setCell (ad (w.heap.size+1) 0) (.int .i64 4)).setCell (ad (w.heap.size+1) 1) (.int .i64 (g:Int))).setCell (ad (w.heap.size+1) 2) (.slice (some (ad nb 0)) n nc)).setCell (ad (w.heap.size+1) 3) (.bool sh)).setCell (ad (w.heap.size+1) 4) (.int .i64 0)) (.slice (some (ad nb 0)) n nc) n (boolF B)):=⟨below_set5 SY.out.1 (by omega),box_set5 SY.out.2.2.1,SY.out.2.1.keep (heap_set5 (by omega)),SY.out.2.2.2.1.keep nr fun x hx=>heap_set5 (by have :=own_block hx;have :=SY.out.2.2.2.2;omega)⟩
 refine tk 7 ?_
 refine rl 8 fun K hK=>?_
 go_simp
 refine hK.out _ _ ?_ (fun hHeld8=>?_)
 ·
  exact d3 HF.out.2.2.1
 clear hK K
 refine wpAnyH_done (by kernel_rfl) ?_ _
 generalize (((((w1.setCell (ad (w.heap.size+1) 0) (.int .i64 4)).setCell (ad (w.heap.size+1) 1) (.int .i64 (g:Int))).setCell (ad (w.heap.size+1) 2) (.slice (some (ad nb 0)) n nc)).setCell (ad (w.heap.size+1) 3) (.bool sh)).setCell (ad (w.heap.size+1) 4) (.int .i64 0))=W9 at *
 have d0:W9.cell? (ad (w.heap.size+1) 0)=some (.int .i64 4):=HF.out.2.1.cell 0
 have d1:W9.cell? (ad (w.heap.size+1) 1)=some (.int .i64 (g:Int)):=HF.out.2.1.cell 1
 have d2:W9.cell? (ad (w.heap.size+1) 2)=some (.slice (some (ad nb 0)) n nc):=HF.out.2.1.cell 2
 have d3:W9.cell? (ad (w.heap.size+1) 3)=some (.bool sh):=HF.out.2.1.cell 3
 have d4:W9.cell? (ad (w.heap.size+1) 4)=some (.int .i64 0):=HF.out.2.1.cell 4
 have HR:Hid (HlR w (WS.held n (.used g B sh)) (.returned (.agg #[.int .i64 4,.int .i64 (g:Int),.slice (some (ad nb 0)) n nc,.bool sh,.int .i64 0])) W9):=⟨nb,nc,rfl,by have :=SY.out.2.2.2.2;omega,HF.out.2.2.2,HF.out.1⟩
 go_wp2_with fail
 exact bodyPost_ret (v:=.agg #[.int .i64 4,.int .i64 (g:Int),.slice (some (ad nb 0)) n nc,.bool sh,.int .i64 0]) (by simp[results,Tryz.results208,go_sem,d0,d1,d2,d3,d4]) rfl HR.out
theorem nilH166 (x:Value) (W:World):(nilAhead 390 161 x "loop.example/signalbox/impl.held").run Tryz.prog W=.ok (some false) W:=by kernel_rfl
theorem methH166 (x:Value) (W:World):(method 390 161 x "loop.example/signalbox/impl.held").run Tryz.prog W=.ok (192,x) W:=by kernel_rfl
theorem nilH168 (x:Value) (W:World):(nilAhead 390 163 x "loop.example/signalbox/impl.held").run Tryz.prog W=.ok (some false) W:=by kernel_rfl
theorem methH168 (x:Value) (W:World):(method 390 163 x "loop.example/signalbox/impl.held").run Tryz.prog W=.ok (195,x) W:=by kernel_rfl
theorem nilH169 (x:Value) (W:World):(nilAhead 390 164 x "loop.example/signalbox/impl.held").run Tryz.prog W=.ok (some false) W:=by kernel_rfl
theorem methH169 (x:Value) (W:World):(method 390 164 x "loop.example/signalbox/impl.held").run Tryz.prog W=.ok (202,x) W:=by kernel_rfl
theorem nilH171 (x:Value) (W:World):(nilAhead 390 166 x "loop.example/signalbox/impl.held").run Tryz.prog W=.ok (some false) W:=by kernel_rfl
theorem methH171 (x:Value) (W:World):(method 390 166 x "loop.example/signalbox/impl.held").run Tryz.prog W=.ok (205,x) W:=by kernel_rfl
theorem nilH174 (x:Value) (W:World):(nilAhead 390 169 x "loop.example/signalbox/impl.held").run Tryz.prog W=.ok (some false) W:=by kernel_rfl
theorem methH174 (x:Value) (W:World):(method 390 169 x "loop.example/signalbox/impl.held").run Tryz.prog W=.ok (208,x) W:=by kernel_rfl
theorem held_any {n:Nat}{w:World}{s:WS}{v:Value}(hn1:1<=n) (hn:n<=1048576) (h:WsV w n s v):
  ∃(T:TypeId) (x:Value) (F:Nat),((T=161/\F=192)\/(T=163/\F=195)\/(T=164/\F=202)\/(T=166/\F=205)\/(T=169/\F=208))/\v=.iface T x/\(∀W,(nilAhead 390 T x "loop.example/signalbox/impl.held").run Tryz.prog W=.ok (some false) W)/\(∀W,(method 390 T x "loop.example/signalbox/impl.held").run Tryz.prog W=.ok (F,x) W)∧
   ∀W:World,WsV W n s v->Calls Tryz.prog F #[x,.int .i64 (n:Int)] W fun e w'=>HlR W (WS.held n s) e w':=by
 cases s with
 |idle=>exact⟨161,_,192,.inl ⟨rfl,rfl⟩,h,nilH166 _,methH166 _,fun W _=>idleH191 n W hn⟩
 |set sh=>exact⟨163,_,195,.inr (.inl ⟨rfl,rfl⟩),h,nilH168 _,methH168 _,fun W _=>setH194 sh n W hn⟩
 |clear=>exact⟨164,_,202,.inr (.inr (.inl ⟨rfl,rfl⟩)),h,nilH169 _,methH169 _,fun W _=>clearH201 n W hn⟩
 |taking t=>exact⟨166,_,205,.inr (.inr (.inr (.inl ⟨rfl,rfl⟩))),h,nilH171 _,methH171 _,fun W _=>takingH204 t n W hn⟩
 |used g B sh=>
  obtain⟨rb,cap,_,rfl,_,_⟩:=h
  refine⟨169,_,208,.inr (.inr (.inr (.inr ⟨rfl,rfl⟩))),rfl,nilH174 _,methH174 _,fun W hW=>?_⟩
  obtain⟨rb',cap',_,e,_,h3⟩:=hW
  simp at e
  obtain⟨rfl,rfl⟩:=e
  exact usedH207 g rb n cap B sh n W hn1 hn h3
end Go.Proofs.YtkeilejbelblcaaGreatDoor
