import Derived.Test.YtkeilejbelblcaaGreatDoorJbq
import Derived.Test.YtkeilejbelblcaaGreatDoorJbc
import Derived.Test.YtkeilejbelblcaaGreatDoorK17
import Derived.Test.YtkeilejbelblcaaGreatDoorJbn
import Derived.Test.YtkeilejbelblcaaGreatDoorJbd
import Derived.Test.YtkeilejbelblcaaGreatDoorJam
namespace Go.Proofs.YtkeilejbelblcaaGreatDoor
open Go.RowKit Go.Lib
def kHg (B:Nat) (v:Value) (n:Nat) (Y:Nat->Hl) (r rc:Nat->Nat):Kp:=⟨fun W=>HsG B W v n Y r rc,fun h hb=>h.mono hb nr⟩
theorem gH {B:Nat}{v:Value}{n:Nat}{Y:Nat->Hl}{r rc:Nat->Nat}{W:World}(h:(kHg B v n Y r rc).p W):HsG B W v n Y r rc:=h
theorem HsG.frb {B:Nat}{v:Value}{n q:Nat}{Y:Nat->Hl}{r rc:Nat->Nat}{W W':World}{T:TypeId}{ys:Array Value}(h:HsG B W v n Y r rc) (hq:Box W q T ys) (hF:Fr (fun x=>x=q) W W') (h1:T≠72:=by decide) (h2:T≠4:=by decide):HsG B W' v n Y r rc:=h.by_ fun b _ _ hb hT=>hF.block b hb.lt fun e=>by subst e;exact hb.ne hq (by rcases hT with rfl|rfl;exact Ne.symm h1;exact Ne.symm h2) rfl
theorem HsG.low {B C:Nat}{v:Value}{n:Nat}{Y:Nat->Hl}{r rc:Nat->Nat}{W:World}(h:HsG B W v n Y r rc) (hC:C<=B):HsG C W v n Y r rc:=⟨h.own.keep hC fun _ _=>rfl,fun i hi=>(h.row i hi).keep hC fun _ _=>rfl,h.inj⟩
theorem infoBl:(Tryz.prog.info? 4).map (fun i=>(i.zero,i.size,i.bytes))=some (some (.bool false),1,1):=by kernel_rfl
set_option maxRecDepth 100000 in
set_option maxHeartbeats 16000000 in
theorem frame58 (p:Pl) (wb yb bb no np:Nat) (O:Nat->Bool) (P:Nat->Nat->Int) (S:Nat->WS) (lo rr:Nat->Nat) (ob oc pb pc:Nat) (ia:Option Addr) (ic:Nat) (w:World) (hps:p.small) (hny:p.ny<=100) (hno:no<=60) (hnp:np<=40) (hns:∀i,i<p.ny->1<=(p.Y i).ns) (hP:PlOwn 0 w p wb yb bb lo rr) (hD:DeskQ w p no np O P S ob oc pb pc ia ic):
  Calls Tryz.prog 58 #[.agg #[.int .i64 p.sec,.slice (some (ad wb 0)) p.nw p.nw,.slice (some (ad yb 0)) p.ny p.ny,.slice (some (ad bb 0)) p.nb p.nb,.int .i64 p.hold,.slice (some (ad ob 0)) no oc,.slice (some (ad pb 0)) np pc,.slice ia p.ny ic]] w fun e w'=>CopyR w ⟨true,no,O,np,P,p.ny,fun i=>WS.held (p.Y i).ns (S i)⟩ e w':=by
 obtain⟨⟨M1,hO⟩,⟨M2,hPt⟩,M,v,hW⟩:=hD
 have H:Hid (VOwn M1 4 1 w (.slice (some (ad ob 0)) no oc) no (boolF O)/\VOwn M2 69 2 w (.slice (some (ad pb 0)) np pc) np (intF P)/\WlOwn M w ia p.ny ic (fun i=>(p.Y i).ns) S v):=⟨hO,hPt,hW⟩
 have HP:Hid (PlOwn 0 w p wb yb bb lo rr/\p.small/\∀i,i<p.ny->1<=(p.Y i).ns):=⟨hP,hps,hns⟩
 obtain⟨i0,hi0,hz0,hs0,hb0⟩:=info_parts infoPt
 obtain⟨i2,hi2,hz2,hs2,hb2⟩:=info_parts infoBl
 obtain⟨V0,hV,S0⟩:=st2 w 84 (vDk p wb yb bb (some (ad ob 0)) no oc (some (ad pb 0)) np pc ia ic) 42 z4v
 clear hO hPt hW hP hps hns
 go_enter Tryz.func58,Tryz.ntmps58
 go_upto_region 1 with fail
 clear hV
 refine wp_region_held_drew (S:=(fun wx:World=>wx.cell? (ad w.heap.size 0)=some (.int .i64 p.sec)/\wx.cell? (ad w.heap.size 1)=some (.slice (some (ad wb 0)) p.nw p.nw)/\wx.cell? (ad w.heap.size 2)=some (.slice (some (ad yb 0)) p.ny p.ny)/\wx.cell? (ad w.heap.size 3)=some (.slice (some (ad bb 0)) p.nb p.nb)/\wx.cell? (ad w.heap.size 4)=some (.int .i64 p.hold)/\wx.cell? (ad w.heap.size 5)=some (.slice (some (ad ob 0)) no oc)/\wx.cell? (ad w.heap.size 6)=some (.slice (some (ad pb 0)) np pc)/\wx.cell? (ad w.heap.size 7)=some (.slice ia p.ny ic))) (by kernel_rfl) ⟨(gB S0.out.2.1).cell 0,(gB S0.out.2.1).cell 1,(gB S0.out.2.1).cell 2,(gB S0.out.2.1).cell 3,(gB S0.out.2.1).cell 4,(gB S0.out.2.1).cell 5,(gB S0.out.2.1).cell 6,(gB S0.out.2.1).cell 7⟩ (fun hHeld=>?_)
 have MD56:=std S0
 clear S0
 generalize V0.drew=VD1 at MD56 hHeld⊢
 refine tk 0 ?_
 refine tk 1 ?_
 refine tk 3 ?_
 refine tk 4 ?_
 refine tk 6 ?_
 refine rl 2 fun K hK=>?_
 refine step_copy _ (by rfl) _ _ 27 (by rfl) 4 i2 _ 1 1 Tryz.underlying27 hi2 hz2 hs2 hb2 rfl (by omega) (by rfl) (some (ad ob 0)) no oc (boolF O) (by rfl) (fun _ _=>rfl) (CpAt.of_own ((H.out.1.mono nr (gL MD56.out.2.2.1) nr))) (by simp only[maxLen];omega) (by omega) ?_
 intro va1 vc1 W1 hv hg
 have hb:=Below.of_grown hg nr (fun g e=>(nomatch e))
 have MC57:=stx (k:=kOw w.heap.size 4 1 (.slice va1 no vc1) no (boolF O)) (stm MD56 hb) (hv.keep (gL MD56.out.2.2.1).size (fun _ _=>rfl))
 clear hb hg hv MD56
 simp only[Act.put]
 refine hK.out _ _ ⟨(gB MC57.out.2.2.1).cell 0,(gB MC57.out.2.2.1).cell 1,(gB MC57.out.2.2.1).cell 2,(gB MC57.out.2.2.1).cell 3,(gB MC57.out.2.2.1).cell 4,(gB MC57.out.2.2.1).cell 5,(gB MC57.out.2.2.1).cell 6,(gB MC57.out.2.2.1).cell 7⟩ (fun hHeld=>?_)
 clear hK K
 refine rl 5 fun K hK=>?_
 refine step_copy _ (by rfl) _ _ 39 (by rfl) 69 i0 _ 2 16 Tryz.underlying39 hi0 hz0 hs0 hb0 rfl (by omega) (by rfl) (some (ad pb 0)) np pc (intF P) (by rfl) (fun _ _=>rfl) (CpAt.of_own ((H.out.2.1.mono nr (gL MC57.out.2.2.2.1) nr))) (by simp only[maxLen];omega) (by omega) ?_
 intro va2 vc2 W2 hv hg
 have hb:=Below.of_grown hg nr (fun g e=>(nomatch e))
 have MC58:=stx (k:=kOw w.heap.size 69 2 (.slice va2 np vc2) np (intF P)) (stm MC57 hb) (hv.keep (gL MC57.out.2.2.2.1).size (fun _ _=>rfl))
 clear hb hg hv MC57
 simp only[Act.put]
 refine hK.out _ _ ⟨(gB MC58.out.2.2.2.1).cell 0,(gB MC58.out.2.2.2.1).cell 1,(gB MC58.out.2.2.2.1).cell 2,(gB MC58.out.2.2.2.1).cell 3,(gB MC58.out.2.2.2.1).cell 4,(gB MC58.out.2.2.2.1).cell 5,(gB MC58.out.2.2.2.1).cell 6,(gB MC58.out.2.2.2.1).cell 7⟩ (fun hHeld=>?_)
 clear hK K
 refine rl 7 fun K hK=>?_
 go_simp
 refine(held83 p wb yb bb lo rr (some (ad ob 0)) no oc (some (ad pb 0)) np pc ia ic S v M _ HP.out.2.1 hny (HP.out.1.mono nr (gL MC58.out.2.2.2.2.1) nr) HP.out.2.2 (H.out.2.2.mono nr (gL MC58.out.2.2.2.2.1) nr)).mono ?_
 rintro e W3 ⟨ha,hc,r,rc,rfl,hh,hb⟩
 have HNE:Hid (∀g,(Value.slice va1 no vc1).ownBlock=some g->∀i,i<p.ny->r i≠g):=fun g hg i hi=>by
  have h4:=((gO MC58.out.2.1).lt hg).2
  have h5:=((hh.row i hi).lt (g:=r i) rfl).1
  omega
 have M3:=stx (k:=kHg w.heap.size (.slice ha p.ny hc) p.ny (fun i=>WS.held (p.Y i).ns (S i)) r rc) (stm MC58 hb) (hh.low (gL MC58.out.2.2.2.2.1).size)
 clear hb hh MC58
 go_wp2_with fail
 refine hK.out _ _ ⟨(gB M3.out.2.2.2.2.1).cell 0,(gB M3.out.2.2.2.2.1).cell 1,(gB M3.out.2.2.2.2.1).cell 2,(gB M3.out.2.2.2.2.1).cell 3,(gB M3.out.2.2.2.2.1).cell 4,(gB M3.out.2.2.2.2.1).cell 5,(gB M3.out.2.2.2.2.1).cell 6,(gB M3.out.2.2.2.2.1).cell 7⟩ (fun hHeld=>?_)
 clear hK K
 refine tk 8 ?_
 refine rl 9 fun K hK=>?_
 refine step_row rfl 42 _ _ rfl (w.heap.size+1) #[.bool true,.slice va1 no vc1,.slice va2 np vc2,.slice ha p.ny hc] rfl rfl 42 _ (gB M3.out.2.2.2.1) (by kernel_rfl) rfl (by kernel_rfl) ?_
 intro W9 hB9 hF9
 have MA59:Hid (Sts [kHg w.heap.size (.slice ha p.ny hc) p.ny (fun i=>WS.held (p.Y i).ns (S i)) r rc,kOw w.heap.size 69 2 (.slice va2 np vc2) np (intF P),kOw w.heap.size 4 1 (.slice va1 no vc1) no (boolF O),kBx (w.heap.size+1) 42 #[.bool true,.slice va1 no vc1,.slice va2 np vc2,.slice ha p.ny hc],kBx (w.heap.size) 84 (vDk p wb yb bb (some (ad ob 0)) no oc (some (ad pb 0)) np pc ia ic),kBn w.heap.size w] W9):=⟨(gH M3.out.1).frb (gB M3.out.2.2.2.1) hF9,owf (gO M3.out.2.1) (gB M3.out.2.2.2.1) hF9,owf (gO M3.out.2.2.1) (gB M3.out.2.2.2.1) hF9,hB9,bxf (gB M3.out.2.2.2.2.1) (gB M3.out.2.2.2.1) hF9,⟨blf M3.out.2.2.2.2.2.1 (Nat.le_add_right _ 1) hF9,rfl⟩,trivial⟩
 clear hB9 hF9 M3
 simp only[Act.put]
 refine hK.out _ _ ⟨(gB MA59.out.2.2.2.2.1).cell 0,(gB MA59.out.2.2.2.2.1).cell 1,(gB MA59.out.2.2.2.2.1).cell 2,(gB MA59.out.2.2.2.2.1).cell 3,(gB MA59.out.2.2.2.2.1).cell 4,(gB MA59.out.2.2.2.2.1).cell 5,(gB MA59.out.2.2.2.2.1).cell 6,(gB MA59.out.2.2.2.2.1).cell 7⟩ (fun hHeld=>?_)
 clear hK K
 refine wpAnyH_done (by kernel_rfl) ?_ _
 clear hHeld
 obtain⟨z0,z1,z2,z3⟩:=(gB MA59.out.2.2.2.1).c4
 go_wp2_with fail
 exact bodyPost_ret (v:=.agg #[.bool true,.slice va1 no vc1,.slice va2 np vc2,.slice ha p.ny hc]) (by simp[results,Tryz.results58,go_sem,z0,z1,z2,z3]) rfl ⟨_,_,_,r,rc,rfl,(gO MA59.out.2.2.1),(gO MA59.out.2.1),(gH MA59.out.1),HNE.out,(gL MA59.out.2.2.2.2.2.1)⟩
theorem st4 (w:World) (T:TypeId) (v:Array Value) (T2:TypeId) (v2:Array Value) (T3:TypeId) (v3:Array Value) (T4:TypeId) (v4:Array Value):∃V,(((w.alloc (.cells v T)).alloc (.cells v2 T2)).alloc (.cells v3 T3)).alloc (.cells v4 T4)=V/\Hid (Sts [kBx (w.heap.size+1+1+1) T4 v4,kBx (w.heap.size+1+1) T3 v3,kBx (w.heap.size+1) T2 v2,kBx w.heap.size T v,kBn w.heap.size w] V):=by
 obtain⟨V,hV,h⟩:=st3 w T v T2 v2 T3 v3
 refine⟨_,rfl,?_⟩
 have hb:=Box.new (((w.alloc (.cells v T)).alloc (.cells v2 T2)).alloc (.cells v3 T3)) T4 v4
 rw[hV] at hb⊢
 have e:V.heap.size=w.heap.size+1+1+1:=by rw[←hV];simp
 rw[e] at hb
 exact stx (sta h _) hb
def dfD (p:Pl) (f:Fm) (op o lie:Int):Dsk:=doD p f.O f.P (stS p f) op o.toNat lie
def dfY (p:Pl) (d:Dsk) (i:Nat):Hl:=WS.held (p.Y i).ns (WS.settle ⟨(p.Y i).ns,fun k=>d.O ((p.Y i).S k).toNat,prvB (p.Y i) d.O d.P⟩ (d.S i))
def noFm:Fm:=⟨false,0,fun _=>false,0,fun _ _=>0,0,fun _=>⟨0,0,0,fun _=>false,false,0⟩⟩
def dfG (p:Pl) (f:Fm) (op o lie:Int):Bool:=frameB p f&&evF p op o lie
def dfF (p:Pl) (f:Fm) (op o lie:Int):Fm:=if dfG p f op o lie=true then⟨true,f.no,(dfD p f op o lie).O,f.np,(dfD p f op o lie).P,p.ny,dfY p (dfD p f op o lie)⟩ else noFm
def dfC (p:Pl) (f:Fm) (op o lie:Int):Int:=if dfG p f op o lie=true then((evC op (dfD p f op o lie).e:Nat):Int) else 1
def DfR (w:World) (c:Int) (f:Fm) (e:Ending) (w':World):Prop:=
 ∃(ov pv hv:Value) (r rc:Nat->Nat),e=.returned (.agg #[.int .i64 c,.bool f.ok,ov,pv,hv])/\VOwn w.heap.size 4 1 w' ov f.no (boolF f.O)/\VOwn w.heap.size 69 2 w' pv f.np (intF f.P)/\HsG w.heap.size w' hv f.nh f.Y r rc/\(∀g,ov.ownBlock=some g->∀i,i<f.nh->r i≠g)/\Below w.heap.size w w'
theorem DfR.no {w w':World}(c:Int) (hb:Below w.heap.size w w'):DfR w c noFm (.returned (.agg #[.int .i64 c,.bool false,.slice none 0 0,.slice none 0 0,.slice none 0 0])) w':=⟨_,_,_,id,id,rfl,VOwn.nil _ _ _ _ _,VOwn.nil _ _ _ _ _,HsG.nil _ _ _ _ _,fun _ _ _ hi=>absurd hi (Nat.not_lt_zero _),hb⟩
theorem evC_none (op:Int):evC op (some 0)=1:=by
 unfold evC
 split
 ·
  rfl
 split
 ·
  rfl
 split<;>rfl
theorem frame_doh {w:World}{p:Pl}{f:Fm}{wb yb bb:Nat}{lo rr:Nat->Nat}{A:Nat->Addr}(h:frameB p f=true) (hs:p.small) (hP:PlOwn 0 w p wb yb bb lo rr) (hS:Sn w 7 A):
  DoH w p wb yb bb f.no f.np lo rr A/\(∀i,i<p.ny->∀t,stS p f i=.taking t->1<=t/\t<=1000)/\(∀k,k<p.ny->1<=(p.Y k).ns/\∀g B sh,stS p f k=.used g B sh->g<=(p.Y k).ns)/\p.ny<=100/\f.no<=60/\f.np<=40/\1<=p.sec/\p.sec<=60/\p.nw<=40:=by
 have hz:sizesB p f=true:=by
  simp only[frameB,Bool.and_eq_true] at h
  exact h.1
 obtain⟨_,h0,_⟩:=sizes_ok hz
 obtain⟨hok,h1,h2,h3,h4⟩:=frame_in h
 obtain⟨_,k1,k2,k3,k4⟩:=planF_zero h0
 have hh:=hok.head
 simp only[headF,Bool.and_eq_true,decide_eq_true_eq,inB] at hh
 refine⟨⟨hs,hok,hP,h4,fun x hx j hj=>?_,by omega,by omega,h2,h3,frame_sw h,hS⟩,fun i hi t ht=>?_,fun k hk=>⟨(wayF_in (hok.way k hk)).1,fun g B sh hg=>?_⟩,k4,by omega,by omega,k1,k2,k3⟩
 ·
  have h5:=hok.way x hx
  simp only[wayF,Bool.and_eq_true,decide_eq_true_eq,listF,liesF,allB_iff,elF,tuF,inB] at h5
  have h6:=(h5.1.1.1.1.2.1 j hj).1
  exact⟨((p.Y x).M j).toNat,by omega,by omega⟩
 ·
  obtain⟨_,hc⟩:=stateF_cases (frame_st h hi).2
  rw[ht] at hc
  rcases hc with⟨_,e⟩|⟨_,e⟩|⟨_,e⟩|⟨_,e,a,b⟩|⟨_,e,_⟩<;>simp at e
  omega
 ·
  obtain⟨_,hc⟩:=stateF_cases (frame_st h hk).2
  rw[hg] at hc
  rcases hc with⟨_,e⟩|⟨_,e⟩|⟨_,e⟩|⟨_,e,_⟩|⟨_,e,a,b,_⟩<;>simp at e
  omega
set_option maxRecDepth 100000 in
set_option maxHeartbeats 16000000 in
theorem do16 (p:Pl) (f:Fm) (wb yb bb:Nat) (lo rr:Nat->Nat) (ob pb hb:Nat) (r:Nat->Nat) (A:Nat->Addr) (op o lie:Int) (w:World) (hs:p.small) (hfs:f.small) (hP:PlOwn 0 w p wb yb bb lo rr) (hF:FmOwn 0 w f (.slice (some (ad ob 0)) f.no f.no) (.slice (some (ad pb 0)) f.np f.np) (.slice (some (ad hb 0)) f.nh f.nh) r) (hS:Sn w 7 A):
  Calls Tryz.prog 16 #[.agg #[.int .i64 p.sec,.slice (some (ad wb 0)) p.nw p.nw,.slice (some (ad yb 0)) p.ny p.ny,.slice (some (ad bb 0)) p.nb p.nb,.int .i64 p.hold],.agg #[.bool f.ok,.slice (some (ad ob 0)) f.no f.no,.slice (some (ad pb 0)) f.np f.np,.slice (some (ad hb 0)) f.nh f.nh],.agg #[.int .i64 op,.int .i64 o,.int .i64 lie]] w fun e w'=>DfR w (dfC p f op o lie) (dfF p f op o lie) e w':=by
 have HS:Hid (p.small/\f.small):=⟨hs,hfs⟩
 have HP:Hid (PlOwn 0 w p wb yb bb lo rr/\FmOwn 0 w f (.slice (some (ad ob 0)) f.no f.no) (.slice (some (ad pb 0)) f.np f.np) (.slice (some (ad hb 0)) f.nh f.nh) r):=⟨hP,hF⟩
 have HSn:Hid (Sn w 7 A):=hS
 obtain⟨V0,hV,S0⟩:=st4 w 37 (vPo p wb yb bb) 42 (vFo f ob pb hb) 52 (vEv op o lie) 50 z5v
 clear hs hfs hP hF hS
 go_enter Tryz.func16,Tryz.ntmps16
 go_upto_region 1 with fail
 clear hV
 obtain⟨m0,m1,m2,m3,m4⟩:=(gB S0.out.2.2.2.1).c5
 obtain⟨n0,n1,n2,n3⟩:=(gB S0.out.2.2.1).c4
 go_wp2_with fail
 clear m0 m1 m2 m3 m4 n0 n1 n2 n3
 have HSV:=HSn.out.mono (gL S0.out.2.2.2.2.1) nr
 refine(desk42 p f wb yb bb lo rr ob pb hb r 251 (.pointer (some (A 0))) V0 HS.out.1 HS.out.2 (HP.out.1.mono nr (gL S0.out.2.2.2.2.1) nr) (HP.out.2.mono nr (gL S0.out.2.2.2.2.1) nr) (HSV.1 0 (by omega)) (by have :=HSV.2.2.2;omega)).mono ?_
 clear HSV
 rintro e w1 ⟨hb1,hc⟩
 have M1:=stm S0 hb1
 clear hb1 S0
 rcases hc with⟨hf,rfl⟩|⟨hf,ia,ic,v,he,hwl⟩
 ·
  have HB:Hid (dfG p f op o lie=false):=by rw[Hid,dfG,hf];rfl
  clear hf
  have M5:=stx (k:=kBx (w1.heap.size) 84 z8v) (sta M1 (.cells z8v 84)) (Box.new _ _ _)
  have HL60:Hid (w.heap.size<=w1.heap.size):=(gL M1.out.2.2.2.2.1).size
  go_upto_region 2 with fail
  clear M1
  generalize w1.alloc (.cells z8v 84)=V5 at M5⊢
  generalize w1.heap.size=tq at M5 HL60⊢
  have m0:=(gB M5.out.2.2.1).cel 0
  have g0:V5.cell? (ad 0 0)=some (.iface 251 (.pointer (some (A 0)))):=(HSn.out.mono (gL M5.out.2.2.2.2.2.1) nr).1 0 (by omega)
  go_wp2_with fail
  clear m0 g0
  refine(code56 (A:=A) (some 0) op _ (HSn.out.mono (gL M5.out.2.2.2.2.2.1) nr) (fun g e=>by cases e;omega)).mono ?_
  rw[evC_none]
  rintro e w5 ⟨rfl,hb⟩
  have M9:=stm M5 hb
  clear hb M5
  go_wp2_with(refine wpList_rowH rfl 50 _ _ rfl (w.heap.size+1+1+1) #[.int .i64 1,.bool false,.slice none 0 0,.slice none 0 0,.slice none 0 0] rfl rfl 50 _ (gB M9.out.2.1) (by kernel_rfl) rfl (by kernel_rfl) (Halt.mk ?_))
  intro W9 hB9 hF9
  have MR61:Hid (Sts [kBn w.heap.size w] W9):=⟨⟨blf M9.out.2.2.2.2.2.1 (Nat.le_add_right _ 3) hF9,rfl⟩,trivial⟩
  obtain⟨z0,z1,z2,z3,z4⟩:=hB9.c5
  clear hF9 hB9 M9
  go_wp2_with fail
  exact bodyPost_ret (v:=.agg #[.int .i64 1,.bool false,.slice none 0 0,.slice none 0 0,.slice none 0 0]) (by simp[results,Tryz.results16,go_sem,z0,z1,z2,z3,z4]) rfl (by rw[dfC,dfF,HB.out];exact DfR.no 1 (gL MR61.out.1))
 ·
  have hnh:=(frame_in hf).2.1
  rw[hnh] at he hwl
  subst he
  have HF:Hid (frameB p f=true):=hf
  have HW:Hid (WlOwn V0.heap.size w1 ia p.ny ic (fun i=>(p.Y i).ns) (stS p f) v):=hwl
  have HDD:=frame_doh hf HS.out.1 (HP.out.1.mono nr (gL M1.out.2.2.2.2.1) nr) (HSn.out.mono (gL M1.out.2.2.2.2.1) nr)
  have HD0:Hid (DoH w1 p wb yb bb f.no f.np lo rr A/\DeskQ w1 p f.no f.np f.O f.P (stS p f) ob f.no pb f.np ia ic):=⟨HDD.1,⟨_,(HP.out.2.o.mono nr (gL M1.out.2.2.2.2.1) nr)⟩,⟨_,(HP.out.2.p.mono nr (gL M1.out.2.2.2.2.1) nr)⟩,_,_,hwl⟩
  have HBD:Hid ((∀i,i<p.ny->∀t,stS p f i=.taking t->1<=t/\t<=1000)/\(∀k,k<p.ny->1<=(p.Y k).ns/\∀g B sh,stS p f k=.used g B sh->g<=(p.Y k).ns)/\p.ny<=100/\f.no<=60/\f.np<=40/\1<=p.sec/\p.sec<=60/\p.nw<=40):=HDD.2
  have HB1:Hid (Below w1.heap.size w1 (w1.alloc (.cells (vDk p wb yb bb (some (ad ob 0)) f.no f.no (some (ad pb 0)) f.np f.np ia ic) 84))):=bel1 _ _
  clear hf hnh hwl HDD HW
  have M5:=stx (k:=kBx (w1.heap.size) 84 (vDk p wb yb bb (some (ad ob 0)) f.no f.no (some (ad pb 0)) f.np f.np ia ic)) (sta M1 (.cells (vDk p wb yb bb (some (ad ob 0)) f.no f.no (some (ad pb 0)) f.np f.np ia ic) 84)) (Box.new _ _ _)
  have HL62:Hid (w.heap.size<=w1.heap.size):=(gL M1.out.2.2.2.2.1).size
  go_upto_region 2 with fail
  clear M1
  generalize hV5:w1.alloc (.cells (vDk p wb yb bb (some (ad ob 0)) f.no f.no (some (ad pb 0)) f.np f.np ia ic) 84)=V5 at M5 HB1⊢
  clear hV5
  have HD1:Hid (DoH V5 p wb yb bb f.no f.np lo rr A/\DeskQ V5 p f.no f.np f.O f.P (stS p f) ob f.no pb f.np ia ic):=⟨HD0.out.1.mono HB1.out nr,HD0.out.2.mono HB1.out nr⟩
  clear HD0 HB1
  generalize w1.heap.size=tq at M5 HL62⊢
  obtain⟨m0,m1,m2,m3,m4⟩:=(gB M5.out.2.2.2.2.1).c5
  obtain⟨n0,n1,n2⟩:=(gB M5.out.2.2.1).c3
  go_wp2_with fail
  clear m0 m1 m2 m3 m4 n0 n1 n2
  refine(ev51 p (some (ad wb 0)) (some (ad yb 0)) (some (ad bb 0)) p.nw p.ny p.nb op o lie _ HBD.out.2.2.2.2.2.1 HBD.out.2.2.2.2.2.2.1 HBD.out.2.2.2.2.2.2.2 HBD.out.2.2.1).mono ?_
  rintro e w2 ⟨he,hb⟩
  obtain⟨eb,HEB⟩:∃eb,Hid (evF p op o lie=eb):=⟨_,rfl⟩
  rw[HEB.out] at he
  subst he
  have HD2:Hid (DoH w2 p wb yb bb f.no f.np lo rr A/\DeskQ w2 p f.no f.np f.O f.P (stS p f) ob f.no pb f.np ia ic):=⟨HD1.out.1.mono hb nr,HD1.out.2.mono hb nr⟩
  clear HD1
  have M6:=stm M5 hb
  clear hb M5
  cases eb with
  |false=>
   have HB:Hid (dfG p f op o lie=false):=by rw[Hid,dfG,HF.out,HEB.out];rfl
   clear HD2
   have m0:=(gB M6.out.2.2.1).cel 0
   have g0:w2.cell? (ad 0 0)=some (.iface 251 (.pointer (some (A 0)))):=(HSn.out.mono (gL M6.out.2.2.2.2.2.1) nr).1 0 (by omega)
   go_wp2_with fail
   clear m0 g0
   refine(code56 (A:=A) (some 0) op _ (HSn.out.mono (gL M6.out.2.2.2.2.2.1) nr) (fun g e=>by cases e;omega)).mono ?_
   rw[evC_none]
   rintro e w5 ⟨rfl,hb⟩
   have M9:=stm M6 hb
   clear hb M6
   go_wp2_with(refine wpList_rowH rfl 50 _ _ rfl (w.heap.size+1+1+1) #[.int .i64 1,.bool false,.slice none 0 0,.slice none 0 0,.slice none 0 0] rfl rfl 50 _ (gB M9.out.2.1) (by kernel_rfl) rfl (by kernel_rfl) (Halt.mk ?_))
   intro W9 hB9 hF9
   have MR63:Hid (Sts [kBn w.heap.size w] W9):=⟨⟨blf M9.out.2.2.2.2.2.1 (Nat.le_add_right _ 3) hF9,rfl⟩,trivial⟩
   obtain⟨z0,z1,z2,z3,z4⟩:=hB9.c5
   clear hF9 hB9 M9
   go_wp2_with fail
   exact bodyPost_ret (v:=.agg #[.int .i64 1,.bool false,.slice none 0 0,.slice none 0 0,.slice none 0 0]) (by simp[results,Tryz.results16,go_sem,z0,z1,z2,z3,z4]) rfl (by rw[dfC,dfF,HB.out];exact DfR.no 1 (gL MR63.out.1))
  |true=>
   have HB:Hid (dfG p f op o lie=true):=by rw[Hid,dfG,HF.out,HEB.out];rfl
   obtain⟨d,hd⟩:∃d,d=dfD p f op o lie:=⟨_,rfl⟩
   have HDf:Hid (dfD p f op o lie=d):=hd.symm
   obtain⟨m0,m1,m2⟩:=(gB M6.out.2.2.1).c3
   obtain⟨n0,n1,n2,n3,n4,n5,n6,n7⟩:=(gB M6.out.1).c8
   go_wp2_with fail
   clear m0 m1 m2 n0 n1 n2 n3 n4 n5 n6 n7
   refine(done57 p wb yb bb f.no f.np f.O f.P (stS p f) lo rr op o lie A ob f.no pb f.np ia ic w2 d hd HEB.out HBD.out.1 HBD.out.2.1 HD2.out.1 HD2.out.2).mono ?_
   rintro e w3 ⟨ob2,oc2,pb2,pc2,ia2,ic2,rfl,hD,hb⟩
   have HP3:Hid (PlOwn 0 w3 p wb yb bb lo rr):=HD2.out.1.pl.mono nr hb nr
   clear HD2 hd
   have M7:=stx (k:=kDq p f.no f.np (d.O) (d.P) ((fun i=>WS.settle ⟨(p.Y i).ns,fun k=>d.O ((p.Y i).S k).toNat,prvB (p.Y i) d.O d.P⟩ (d.S i))) ob2 oc2 pb2 pc2 ia2 ic2) (stm M6 hb) (hD)
   clear hb hD M6
   go_wp2_with(refine wpList_rowH rfl 84 _ _ rfl (tq) #[.int .i64 p.sec,.slice (some (ad wb 0)) p.nw p.nw,.slice (some (ad yb 0)) p.ny p.ny,.slice (some (ad bb 0)) p.nb p.nb,.int .i64 p.hold,.slice (some (ad ob2 0)) f.no oc2,.slice (some (ad pb2 0)) f.np pc2,.slice ia2 p.ny ic2] rfl rfl 84 _ (gB M7.out.2.1) (by kernel_rfl) rfl (by kernel_rfl) (Halt.mk ?_))
   intro W6 hB9 hF9
   have M8:Hid (Sts [kDq p f.no f.np (d.O) (d.P) ((fun i=>WS.settle ⟨(p.Y i).ns,fun k=>d.O ((p.Y i).S k).toNat,prvB (p.Y i) d.O d.P⟩ (d.S i))) ob2 oc2 pb2 pc2 ia2 ic2,kBx (tq) 84 (vDk p wb yb bb (some (ad ob2 0)) f.no oc2 (some (ad pb2 0)) f.np pc2 ia2 ic2),kBx (w.heap.size+1+1+1) 50 z5v,kBx (w.heap.size+1+1) 52 (vEv op o lie),kBx (w.heap.size+1) 42 (vFo f ob pb hb),kBx (w.heap.size) 37 (vPo p wb yb bb),kBn w.heap.size w] W6):=⟨(gD M7.out.1).fr (gB M7.out.2.1) hF9,hB9,bxf (gB M7.out.2.2.1) (gB M7.out.2.1) hF9,bxf (gB M7.out.2.2.2.1) (gB M7.out.2.1) hF9,bxf (gB M7.out.2.2.2.2.1) (gB M7.out.2.1) hF9,bxf (gB M7.out.2.2.2.2.2.1) (gB M7.out.2.1) hF9,⟨blf M7.out.2.2.2.2.2.2.1 HL62.out hF9,rfl⟩,trivial⟩
   have HP6:Hid (PlOwn 0 W6 p wb yb bb lo rr):=(HP.out.1.mono nr (gL M8.out.2.2.2.2.2.2.1) nr)
   clear hB9 hF9 M7 HP3
   obtain⟨m0,m1,m2,m3,m4,m5,m6,m7⟩:=(gB M8.out.2.1).c8
   go_wp2_with fail
   clear m0 m1 m2 m3 m4 m5 m6 m7
   refine(frame58 p wb yb bb f.no f.np d.O d.P (fun i=>WS.settle ⟨(p.Y i).ns,fun k=>d.O ((p.Y i).S k).toNat,prvB (p.Y i) d.O d.P⟩ (d.S i)) lo rr ob2 oc2 pb2 pc2 ia2 ic2 W6 HS.out.1 HBD.out.2.2.1 HBD.out.2.2.2.1 HBD.out.2.2.2.2.1 (fun i hi=>(HBD.out.2.1 i hi).1) HP6.out (gD M8.out.1)).mono ?_
   rintro e w4 ⟨ov,pv,hv,r,rc,rfl,ho,hp,hh,hne,hb⟩
   obtain⟨va1,vc1,rfl⟩:=ho.val
   obtain⟨va2,vc2,rfl⟩:=hp.val
   obtain⟨ha,hc,rfl⟩:=hh.own.val
   have HNE:Hid (∀g,(Value.slice va1 f.no vc1).ownBlock=some g->∀i,i<p.ny->r i≠g):=hne
   have M10:=stx (k:=kHg w.heap.size (.slice ha p.ny hc) p.ny (dfY p d) r rc) (stx (k:=kOw w.heap.size 69 2 (.slice va2 f.np vc2) f.np (intF d.P)) (stx (k:=kOw w.heap.size 4 1 (.slice va1 f.no vc1) f.no (boolF d.O)) (stm M8 hb) (ho.keep (gL M8.out.2.2.2.2.2.2.1).size (fun _ _=>rfl))) (hp.keep (gL M8.out.2.2.2.2.2.2.1).size (fun _ _=>rfl))) (hh.low (gL M8.out.2.2.2.2.2.2.1).size)
   clear hb ho hp hh hne M8
   go_wp2_with(refine wpList_rowH rfl 50 _ _ rfl (w.heap.size+1+1+1) #[.int .i64 ((evC op d.e:Nat):Int),.bool true,.slice va1 f.no vc1,.slice va2 f.np vc2,.slice ha p.ny hc] rfl rfl 50 _ (gB M10.out.2.2.2.2.2.1) (by kernel_rfl) rfl (by kernel_rfl) (Halt.mk ?_))
   intro W9 hB9 hF9
   have MR64:Hid (Sts [kHg w.heap.size (.slice ha p.ny hc) p.ny (dfY p d) r rc,kOw w.heap.size 69 2 (.slice va2 f.np vc2) f.np (intF d.P),kOw w.heap.size 4 1 (.slice va1 f.no vc1) f.no (boolF d.O),kBn w.heap.size w] W9):=⟨(gH M10.out.1).frb (gB M10.out.2.2.2.2.2.1) hF9,owf (gO M10.out.2.1) (gB M10.out.2.2.2.2.2.1) hF9,owf (gO M10.out.2.2.1) (gB M10.out.2.2.2.2.2.1) hF9,⟨blf M10.out.2.2.2.2.2.2.2.2.2.1 (Nat.le_add_right _ 3) hF9,rfl⟩,trivial⟩
   obtain⟨z0,z1,z2,z3,z4⟩:=hB9.c5
   clear hF9 hB9 M10
   go_wp2_with fail
   exact bodyPost_ret (v:=.agg #[.int .i64 ((evC op d.e:Nat):Int),.bool true,.slice va1 f.no vc1,.slice va2 f.np vc2,.slice ha p.ny hc]) (by simp[results,Tryz.results16,go_sem,z0,z1,z2,z3,z4]) rfl (by rw[dfC,dfF,HB.out,if_pos rfl,if_pos rfl,HDf.out];exact⟨_,_,_,r,rc,rfl,(gO MR64.out.2.2.1),(gO MR64.out.2.1),(gH MR64.out.1),HNE.out,(gL MR64.out.2.2.2.1)⟩)
structure SF (B:Nat) (W:World) (fb:Nat) (f:Fm) (oa pa ha:Option Addr) (oc pc hc:Nat) (r rc:Nat->Nat):Prop where
 bx:Box W fb 42 (vFr f oa oc pa pc ha hc)
 o:VOwn B 4 1 W (.slice oa f.no oc) f.no (boolF f.O)
 p:VOwn B 69 2 W (.slice pa f.np pc) f.np (intF f.P)
 h:HsG B W (.slice ha f.nh hc) f.nh f.Y r rc
 ne:∀g,(Value.slice oa f.no oc).ownBlock=some g->∀i,i<f.nh->r i≠g
 lo:B<=fb
theorem SF.mono {B M fb:Nat}{W W':World}{f:Fm}{oa pa ha:Option Addr}{oc pc hc:Nat}{r rc:Nat->Nat}(s:SF B W fb f oa pa ha oc pc hc r rc) (hb:Below M W W') (hM:W.heap.size<=M):SF B W' fb f oa pa ha oc pc hc r rc:=⟨s.bx.mono hb hM,s.o.mono nr hb hM,s.p.mono nr hb hM,s.h.mono hb hM,s.ne,s.lo⟩
theorem SF.occ {B fb ob:Nat}{W:World}{f:Fm}{pa ha:Option Addr}{oc pc hc:Nat}{r rc:Nat->Nat}(s:SF B W fb f (some (ad ob 0)) pa ha oc pc hc r rc) {x:Nat}(hx:x<f.no) (u:Bool):SF B (W.setCell (ad ob x) (.bool u)) fb ⟨f.ok,f.no,updN f.O x u,f.np,f.P,f.nh,f.Y⟩ (some (ad ob 0)) pa ha oc pc hc r rc:=by
 have hF:=(Fr.refl (fun b=>b=ob) W).put x (.bool u)
 refine⟨s.bx.fr hF (fun e=>s.o.off s.bx (by decide) (g:=ob) rfl e.symm),s.o.store1 hx _ fun j hj=>?_,s.p.fr hF fun g hg e=>?_,⟨s.h.own.fr hF fun g hg e=>?_,fun i hi=>(s.h.row i hi).fr hF fun g hg e=>?_,s.h.inj⟩,s.ne,s.lo⟩
 ·
  unfold upd updN
  by_cases e:j=x
  ·
   subst e
   simp[boolF]
  ·
   simp[boolF,e]
 ·
  subst e
  exact s.p.apart s.o (by decide) hg rfl
 ·
  subst e
  exact s.h.own.apart s.o (by decide) hg rfl
 ·
  subst e
  simp only[Value.ownBlock,Option.some.injEq] at hg
  exact s.ne g rfl i hi hg
theorem SF.pt {B fb pb:Nat}{W:World}{f:Fm}{oa ha:Option Addr}{oc pc hc:Nat}{r rc:Nat->Nat}(s:SF B W fb f oa (some (ad pb 0)) ha oc pc hc r rc) {x j:Nat}(hx:x<f.np) (hj:j<2) (z:Int) {Q:Nat->Nat->Int}(hQ:∀i,i<f.np->∀k,k<2->Q i k=if i=x/\k=j then z else f.P i k):SF B (W.setCell (ad pb (x*2+j)) (.int .i64 z)) fb ⟨f.ok,f.no,f.O,f.np,Q,f.nh,f.Y⟩ oa (some (ad pb 0)) ha oc pc hc r rc:=by
 have hF:=(Fr.refl (fun b=>b=pb) W).put (x*2+j) (.int .i64 z)
 refine⟨s.bx.fr hF (fun e=>s.p.off s.bx (by decide) (g:=pb) rfl e.symm),s.o.fr hF fun g hg e=>?_,(s.p.store hx hj _).congr fun i hi k hk=>?_,⟨s.h.own.fr hF fun g hg e=>?_,fun i hi=>(s.h.row i hi).fr hF fun g hg e=>?_,s.h.inj⟩,s.ne,s.lo⟩
 ·
  subst e
  exact s.o.apart s.p (by decide) hg rfl
 ·
  show _=Value.int .i64 (Q i k)
  rw[hQ i hi k hk]
  unfold upd intF
  split<;>rfl
 ·
  subst e
  exact s.h.own.apart s.p (by decide) hg rfl
 ·
  subst e
  exact(s.h.row i hi).apart s.p (by decide) hg rfl
theorem SF.way {B fb hb:Nat}{W:World}{f:Fm}{oa pa:Option Addr}{oc pc hc:Nat}{r rc:Nat->Nat}(s:SF B W fb f oa pa (some (ad hb 0)) oc pc hc r rc) {x j:Nat}(hx:x<f.nh) (hj:j<5) (z:Int) {Z:Nat->Hl}(hZ:∀i,i<f.nh->∀k,k<5->hlG Z r rc i k=if i=x/\k=j then .int .i64 z else hlG f.Y r rc i k) (hB:∀i,i<f.nh->(Z i).nb=(f.Y i).nb/\(Z i).B=(f.Y i).B):SF B (W.setCell (ad hb (x*5+j)) (.int .i64 z)) fb ⟨f.ok,f.no,f.O,f.np,f.P,f.nh,Z⟩ oa pa (some (ad hb 0)) oc pc hc r rc:=by
 have hF:=(Fr.refl (fun b=>b=hb) W).put (x*5+j) (.int .i64 z)
 refine⟨s.bx.fr hF (fun e=>s.h.own.off s.bx (by decide) (g:=hb) rfl e.symm),s.o.fr hF fun g hg e=>?_,s.p.fr hF fun g hg e=>?_,⟨(s.h.own.store hx hj _).congr fun i hi k hk=>?_,fun i hi=>?_,s.h.inj⟩,s.ne,s.lo⟩
 ·
  subst e
  exact s.o.apart s.h.own (by decide) hg rfl
 ·
  subst e
  exact s.p.apart s.h.own (by decide) hg rfl
 ·
  show _=hlG Z r rc i k
  rw[hZ i hi k hk]
  rfl
 ·
  show VOwn B 4 1 _ (.slice (some (ad (r i) 0)) (Z i).nb (rc i)) (Z i).nb (boolF (Z i).B)
  rw[(hB i hi).1,(hB i hi).2]
  refine(s.h.row i hi).fr hF fun g hg e=>?_
  subst e
  exact(s.h.row i hi).apart s.h.own (by decide) hg rfl
end Go.Proofs.YtkeilejbelblcaaGreatDoor
