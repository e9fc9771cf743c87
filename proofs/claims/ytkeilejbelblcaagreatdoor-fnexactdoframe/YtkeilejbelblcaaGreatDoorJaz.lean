import Derived.Test.YtkeilejbelblcaaGreatDoorJay
import Derived.Test.YtkeilejbelblcaaGreatDoorGMoSm
import Derived.Test.YtkeilejbelblcaaGreatDoorJac
import Derived.Test.YtkeilejbelblcaaGreatDoorJab
namespace Go.Proofs.YtkeilejbelblcaaGreatDoor
open Go.RowKit Go.Lib
def DR2 (p:Pl) (wb yb bb no np:Nat) (O:Nat->Bool) (P:Nat->Nat->Int) (S:Nat->WS) (A:Nat->Addr) (o:Option Nat) (w:World) (e:Ending) (w':World):Prop:=
 ∃(ob oc pb pc:Nat) (ia:Option Addr) (ic:Nat),e=.returned (.tuple #[.agg #[.int .i64 p.sec,.slice (some (ad wb 0)) p.nw p.nw,.slice (some (ad yb 0)) p.ny p.ny,.slice (some (ad bb 0)) p.nb p.nb,.int .i64 p.hold,.slice (some (ad ob 0)) no oc,.slice (some (ad pb 0)) np pc,.slice ia p.ny ic],erV A o])/\DeskQ w' p no np O P S ob oc pb pc ia ic/\Below w.heap.size w w'
def bkT (h:Int) (r:Bool):WS->WS
 | .set sh=>if sh&&r then .taking h else .idle
 | .clear=>if r then .taking h else .idle
 |s=>s
def bkO:WS->Option Nat
 | .set _=>none
 | .clear=>none
 |_=>some 6
def bkN (p:Pl) (O:Nat->Bool) (x:Nat):Bool:=anyO O (p.Y x).M (p.Y x).nm
theorem bka163 (w:World) (x:Value):(Instr.typeAssert (.iface 163 x) 132 163 true).run Tryz.prog w=.ok (.tuple #[x,.bool true]) w:=by kernel_rfl
theorem bka164 (w:World) (x:Value):(Instr.typeAssert (.iface 164 x) 132 163 true).run Tryz.prog w=.ok (.tuple #[.agg #[.bool false],.bool false]) w:=by kernel_rfl
theorem bkb164 (w:World) (x:Value):(Instr.typeAssert (.iface 164 x) 132 164 true).run Tryz.prog w=.ok (.tuple #[x,.bool true]) w:=by kernel_rfl
theorem bkn161 (w:World) (x:Value):(Instr.typeAssert (.iface 161 x) 132 163 true).run Tryz.prog w=.ok (.tuple #[.agg #[.bool false],.bool false]) w/\(Instr.typeAssert (.iface 161 x) 132 164 true).run Tryz.prog w=.ok (.tuple #[.agg #[],.bool false]) w:=by constructor<;>kernel_rfl
theorem bkn166 (w:World) (x:Value):(Instr.typeAssert (.iface 166 x) 132 163 true).run Tryz.prog w=.ok (.tuple #[.agg #[.bool false],.bool false]) w/\(Instr.typeAssert (.iface 166 x) 132 164 true).run Tryz.prog w=.ok (.tuple #[.agg #[],.bool false]) w:=by constructor<;>kernel_rfl
theorem bkn169 (w:World) (x:Value):(Instr.typeAssert (.iface 169 x) 132 163 true).run Tryz.prog w=.ok (.tuple #[.agg #[.bool false],.bool false]) w/\(Instr.typeAssert (.iface 169 x) 132 164 true).run Tryz.prog w=.ok (.tuple #[.agg #[],.bool false]) w:=by constructor<;>kernel_rfl
set_option maxRecDepth 100000 in
set_option maxHeartbeats 16000000 in
theorem back115 (p:Pl) (wb yb bb no np:Nat) (O:Nat->Bool) (P:Nat->Nat->Int) (S:Nat->WS) (lo rr:Nat->Nat) (x:Nat) (A:Nat->Addr) (ob oc pb pc:Nat) (ia:Option Addr) (ic:Nat) (w:World) (hx:x<p.ny) (hps:p.small) (hP:PlOwn 0 w p wb yb bb lo rr) (hM:∀i,i<(p.Y x).nm->∃o:Nat,(p.Y x).M i=(o:Int)/\o<no) (hno:no<=1048576) (hS:Sn w 7 A) (hD:DeskQ w p no np O P S ob oc pb pc ia ic):
  Calls Tryz.prog 115 #[.agg #[.int .i64 p.sec,.slice (some (ad wb 0)) p.nw p.nw,.slice (some (ad yb 0)) p.ny p.ny,.slice (some (ad bb 0)) p.nb p.nb,.int .i64 p.hold,.slice (some (ad ob 0)) no oc,.slice (some (ad pb 0)) np pc,.slice ia p.ny ic],.int .i64 (x:Int)] w fun e w'=>DR2 p wb yb bb no np O P (updN S x (bkT p.hold (bkN p O x) (S x))) A (bkO (S x)) w e w':=by
 obtain⟨⟨M1,hO⟩,⟨M2,hPt⟩,M,v,hW⟩:=hD
 obtain⟨r,HR⟩:∃r,Hid (bkN p O x=r):=⟨_,rfl⟩
 rw[HR.out]
 obtain⟨oe,HBO⟩:∃o,Hid (bkO (S x)=o):=⟨_,rfl⟩
 rw[HBO.out]
 have H:Hid (VOwn M1 4 1 w (.slice (some (ad ob 0)) no oc) no (boolF O)/\VOwn M2 69 2 w (.slice (some (ad pb 0)) np pc) np (intF P)/\WlOwn M w ia p.ny ic (fun i=>(p.Y i).ns) S v):=⟨hO,hPt,hW⟩
 have HSn:Hid (Sn w 7 A):=hS
 have HPS:Hid p.small:=hps
 have HQ:Hid ((p.Y x).nm<=1048576/\∀i,i<(p.Y x).nm->∃o:Nat,(p.Y x).M i=(o:Int)/\o<no):=⟨by have :=(hps.2.2.1 x hx).2.2.2.2;omega,hM⟩
 obtain⟨ma,mc,HY⟩:∃(ma:Option Addr) (mc:Nat),Hid (yb<w.heap.size/\w.cell? (ad yb (x*5+4))=some (.slice ma (p.Y x).nm mc)/\VsAt 1 0 w ma (p.Y x).nm (oneF (p.Y x).M)):=by
  obtain⟨b,off,e,_,hb,hc⟩:=(hP.in nr).wy (by omega)
  simp only[Option.some.injEq,Addr.mk.injEq,and_true] at e
  obtain⟨rfl,rfl⟩:=e
  obtain⟨_,_,_,_,_,_,_,_,ma,mc,_,_,_,_,h4,h5⟩:=hc x hx
  rw[Nat.zero_add] at h4
  exact⟨ma,mc,hb,h4,h5.m⟩
 have hx0:(0:Int)<=(x:Int):=by omega
 have hxn:(x:Int)<(p.ny:Int):=by omega
 obtain⟨V0,hV,S0⟩:=st2 w 84 (vDk p wb yb bb (some (ad ob 0)) no oc (some (ad pb 0)) np pc ia ic) 84 z8v
 have W0:WlOwn M V0 ia p.ny ic (fun i=>(p.Y i).ns) S v:=(hW.mono nr (gL S0.out.2.2.1) nr)
 obtain⟨b,off,hia,_,hb2,hc2⟩:=W0.own.vs (by omega)
 have HIA:Hid (ia=some (ad b off)):=hia
 clear hia
 have c0:V0.cell? (ad b (off+x))=some (v x):=by have :=hc2 x hx 0 (by omega);simpa using this
 have HV:Hid (WsV V0 (p.Y x).ns (S x) (v x)):=W0.ws x hx
 obtain⟨T0,x0,hx1⟩:=HV.out.one
 rw[hx1] at c0 HV
 clear hO hPt hW hS hps hM hP W0 hb2 hc2 hx1
 go_enter Tryz.func115,Tryz.ntmps115
 go_upto_region 2 with fail
 clear hV
 have m7:V0.cell? (ad w.heap.size 7)=some (.slice (some (ad b off)) p.ny ic):=by rw[←HIA.out];exact(gB S0.out.2.1).cell 7
 go_upto_block 0 with fail
 clear m7 c0 HIA
 go_cut [6] from 7 (fun s6 wx=>∃sh:Bool,s6=.bool sh/\Hid (bkO (S x)=none/\bkT p.hold r (S x)=if sh&&r then .taking p.hold else .idle)/\Hid (Sts [kBx (w.heap.size+1) 84 z8v,kBx (w.heap.size) 84 (vDk p wb yb bb (some (ad ob 0)) no oc (some (ad pb 0)) np pc ia ic),kBn w.heap.size w] wx))
 case first =>
  by_cases hb1:bkO (S x)=some 6
  ·
   have ta:∀W,(Instr.typeAssert (.iface T0 x0) 132 163 true).run Tryz.prog W=.ok (.tuple #[.agg #[.bool false],.bool false]) W/\(Instr.typeAssert (.iface T0 x0) 132 164 true).run Tryz.prog W=.ok (.tuple #[.agg #[],.bool false]) W:=by
    intro W
    have hv:=HV.out
    cases hs:S x with
    |idle=>rw[hs] at hv;cases (hv:_=_);exact bkn161 W _
    |set sh=>rw[hs] at hb1;cases hb1
    |clear=>rw[hs] at hb1;cases hb1
    |taking t=>rw[hs] at hv;cases (hv:_=_);exact bkn166 W _
    |used g B sh=>rw[hs] at hv;obtain⟨_,_,_,h9,_⟩:=hv;cases h9;exact bkn169 W _
   have ta1:=fun W=>(ta W).1
   have ta2:=fun W=>(ta W).2
   clear ta
   have HSE:Hid (∀i,i<p.ny->S i=updN S x (bkT p.hold r (S x)) i):=fun i _=>by
    by_cases e:i=x
    ·
     subst e
     rw[updN_same]
     cases hs:S i<;>first |rfl|(rw[hs] at hb1;cases hb1)
    ·
     rw[updN_ne e]
   have HE6:Hid (erV A oe=.iface 251 (.pointer (some (A 6)))):=by rw[←HBO.out,hb1];rfl
   clear hb1
   go_upto_region 4 with(first |rw[ta1]|rw[ta2]|fail)
   clear ta1 ta2
   refine wp_region_held_drew (S:=(fun wx:World=>wx.cell? (ad w.heap.size 0)=some (.int .i64 p.sec)/\wx.cell? (ad w.heap.size 1)=some (.slice (some (ad wb 0)) p.nw p.nw)/\wx.cell? (ad w.heap.size 2)=some (.slice (some (ad yb 0)) p.ny p.ny)/\wx.cell? (ad w.heap.size 3)=some (.slice (some (ad bb 0)) p.nb p.nb)/\wx.cell? (ad w.heap.size 4)=some (.int .i64 p.hold)/\wx.cell? (ad w.heap.size 5)=some (.slice (some (ad ob 0)) no oc)/\wx.cell? (ad w.heap.size 6)=some (.slice (some (ad pb 0)) np pc)/\wx.cell? (ad w.heap.size 7)=some (.slice ia p.ny ic)/\wx.cell? (ad 6 0)=some (.iface 251 (.pointer (some (A 6)))))) (by kernel_rfl) ⟨(gB S0.out.2.1).cell 0,(gB S0.out.2.1).cell 1,(gB S0.out.2.1).cell 2,(gB S0.out.2.1).cell 3,(gB S0.out.2.1).cell 4,(gB S0.out.2.1).cell 5,(gB S0.out.2.1).cell 6,(gB S0.out.2.1).cell 7,(HSn.out.mono (gL S0.out.2.2.1) nr).1 6 (by omega)⟩ (fun hHeld=>?_)
   have MD30:=std S0
   clear S0
   generalize V0.drew=VD4 at MD30 hHeld⊢
   refine tk 0 ?_
   refine tk 1 ?_
   refine rl 2 fun K hK=>?_
   refine step_row rfl 84 _ _ rfl (w.heap.size+1) #[.int .i64 p.sec,.slice (some (ad wb 0)) p.nw p.nw,.slice (some (ad yb 0)) p.ny p.ny,.slice (some (ad bb 0)) p.nb p.nb,.int .i64 p.hold,.slice (some (ad ob 0)) no oc,.slice (some (ad pb 0)) np pc,.slice ia p.ny ic] rfl rfl 84 _ (gB MD30.out.1) (by kernel_rfl) rfl (by kernel_rfl) ?_
   intro W31 hB9 hF9
   have MA32:Hid (Sts [kBx (w.heap.size+1) 84 (vDk p wb yb bb (some (ad ob 0)) no oc (some (ad pb 0)) np pc ia ic),kBx (w.heap.size) 84 (vDk p wb yb bb (some (ad ob 0)) no oc (some (ad pb 0)) np pc ia ic),kBn w.heap.size w] W31):=⟨hB9,(gB MD30.out.2.1).fr hF9 (by omega),⟨blf MD30.out.2.2.1 (Nat.le_add_right _ 1) hF9,rfl⟩,trivial⟩
   clear hB9 hF9 MD30
   simp only[Act.put]
   refine hK.out _ _ ⟨(gB MA32.out.2.1).cell 0,(gB MA32.out.2.1).cell 1,(gB MA32.out.2.1).cell 2,(gB MA32.out.2.1).cell 3,(gB MA32.out.2.1).cell 4,(gB MA32.out.2.1).cell 5,(gB MA32.out.2.1).cell 6,(gB MA32.out.2.1).cell 7,(HSn.out.mono (gL MA32.out.2.2.1) nr).1 6 (by omega)⟩ (fun hHeld=>?_)
   clear hK K
   refine tk 3 ?_
   refine wpAnyH_done (by kernel_rfl) ?_ _
   clear hHeld
   have z0:W31.cell? (ad (w.heap.size+1) 0)=some (.int .i64 p.sec):=(gB MA32.out.1).cell 0
   have z1:W31.cell? (ad (w.heap.size+1) 1)=some (.slice (some (ad wb 0)) p.nw p.nw):=(gB MA32.out.1).cell 1
   have z2:W31.cell? (ad (w.heap.size+1) 2)=some (.slice (some (ad yb 0)) p.ny p.ny):=(gB MA32.out.1).cell 2
   have z3:W31.cell? (ad (w.heap.size+1) 3)=some (.slice (some (ad bb 0)) p.nb p.nb):=(gB MA32.out.1).cell 3
   have z4:W31.cell? (ad (w.heap.size+1) 4)=some (.int .i64 p.hold):=(gB MA32.out.1).cell 4
   have z5:W31.cell? (ad (w.heap.size+1) 5)=some (.slice (some (ad ob 0)) no oc):=(gB MA32.out.1).cell 5
   have z6:W31.cell? (ad (w.heap.size+1) 6)=some (.slice (some (ad pb 0)) np pc):=(gB MA32.out.1).cell 6
   have z7:W31.cell? (ad (w.heap.size+1) 7)=some (.slice ia p.ny ic):=(gB MA32.out.1).cell 7
   go_wp2_with fail
   exact bodyPost_ret (v:=.tuple #[.agg #[.int .i64 p.sec,.slice (some (ad wb 0)) p.nw p.nw,.slice (some (ad yb 0)) p.ny p.ny,.slice (some (ad bb 0)) p.nb p.nb,.int .i64 p.hold,.slice (some (ad ob 0)) no oc,.slice (some (ad pb 0)) np pc,.slice ia p.ny ic],.iface 251 (.pointer (some (A 6)))]) (by simp[results,Tryz.results115,go_sem,z0,z1,z2,z3,z4,z5,z6,z7]) rfl (⟨ob,oc,pb,pc,ia,ic,by rw[HE6.out];first |done|rfl,⟨⟨M1,(H.out.1.mono nr (gL MA32.out.2.2.1) nr)⟩,⟨M2,(H.out.2.1.mono nr (gL MA32.out.2.2.1) nr)⟩,_,_,wl_next (H.out.2.2.mono nr (gL MA32.out.2.2.1) nr) HSE.out⟩,(gL MA32.out.2.2.1)⟩)
  ·
   have hsc:(∃sh,S x=.set sh/\T0=163/\x0=.agg #[.bool sh])\/(S x=.clear/\T0=164/\x0=.agg #[]):=by
    have hv:=HV.out
    cases hs:S x with
    |idle=>rw[hs] at hb1;exact absurd rfl hb1
    |set sh=>rw[hs] at hv;cases (hv:_=_);exact .inl ⟨sh,rfl,rfl,rfl⟩
    |clear=>rw[hs] at hv;cases (hv:_=_);exact .inr ⟨rfl,rfl,rfl⟩
    |taking t=>rw[hs] at hb1;exact absurd rfl hb1
    |used g B sh=>rw[hs] at hb1;exact absurd rfl hb1
   clear hb1 HV
   rcases hsc with⟨sh,hS,rfl,rfl⟩|⟨hS,rfl,rfl⟩
   ·
    have HS:Hid (S x=.set sh):=hS
    clear hS
    go_wp2_with(first |rw[bka163]|fail)
    go_meet
    case rel=>exact⟨sh,rfl,by rw[HS.out];exact⟨rfl,rfl⟩,sta S0 _⟩
   ·
    have HS:Hid (S x=.clear):=hS
    clear hS
    go_wp2_with(first |rw[bka164]|rw[bkb164]|fail)
    go_meet
    case rel=>exact⟨true,rfl,by rw[HS.out];exact⟨rfl,by simp[bkT]⟩,sta S0 _⟩
 case rest=>
  obtain⟨sh,rfl,HB,M6⟩:=hcut
  clear S0 HV
  generalize wc=W6 at M6⊢
  have HBN:Hid (erV A oe=.nilIface):=by rw[←HBO.out,HB.out.1];rfl
  go_upto_region 11 with fail
  go_cut [39] from 11 (fun s39 wx=>s39=.bool (sh&&r)/\Hid (Sts [kBx (w.heap.size+1) 84 z8v,kBx (w.heap.size) 84 (vDk p wb yb bb (some (ad ob 0)) no oc (some (ad pb 0)) np pc ia ic),kBn w.heap.size w] wx))
  case first =>
   cases sh with
   |true=>
    refine wp_region_held_drew (S:=(fun wx:World=>wx.cell? (ad w.heap.size 0)=some (.int .i64 p.sec)/\wx.cell? (ad w.heap.size 1)=some (.slice (some (ad wb 0)) p.nw p.nw)/\wx.cell? (ad w.heap.size 2)=some (.slice (some (ad yb 0)) p.ny p.ny)/\wx.cell? (ad w.heap.size 3)=some (.slice (some (ad bb 0)) p.nb p.nb)/\wx.cell? (ad w.heap.size 4)=some (.int .i64 p.hold)/\wx.cell? (ad w.heap.size 5)=some (.slice (some (ad ob 0)) no oc)/\wx.cell? (ad w.heap.size 6)=some (.slice (some (ad pb 0)) np pc)/\wx.cell? (ad w.heap.size 7)=some (.slice ia p.ny ic)/\wx.cell? (ad yb (x*5+4))=some (.slice ma (p.Y x).nm mc))) (by kernel_rfl) ⟨(gB M6.out.2.1).cell 0,(gB M6.out.2.1).cell 1,(gB M6.out.2.1).cell 2,(gB M6.out.2.1).cell 3,(gB M6.out.2.1).cell 4,(gB M6.out.2.1).cell 5,(gB M6.out.2.1).cell 6,(gB M6.out.2.1).cell 7,cell_keep (w1:=W6) (gL M6.out.2.2.1) HY.out.1 HY.out.2.1⟩ (fun hHeld=>?_)
    have MD33:=std M6
    clear M6
    generalize W6.drew=VD11 at MD33 hHeld⊢
    refine tk 0 ?_
    refine tk 1 ?_
    refine tk 2 ?_
    refine tk 3 ?_
    refine tk 4 ?_
    refine tk 5 ?_
    refine tk 6 ?_
    refine tk 7 ?_
    refine tk 8 ?_
    refine tk 9 ?_
    refine rl 10 fun K hK=>?_
    go_simp
    refine(some134 p wb yb bb ob 0 no oc (.slice (some (ad pb 0)) np pc) (.slice ia p.ny ic) ma (p.Y x).nm mc (p.Y x).M O _ HQ.out.1 hno (HY.out.2.2.mono nr (gL MD33.out.2.2.1) nr) HQ.out.2 ((H.out.1.mono nr (gL MD33.out.2.2.1) nr).vs.le (Nat.zero_le _))).mono ?_
    rintro e wh1 ⟨rfl,hb⟩
    have MA34:=stm MD33 hb
    clear hb MD33
    go_wp2_with fail
    refine hK.out _ _ ⟨(gB MA34.out.2.1).cell 0,(gB MA34.out.2.1).cell 1,(gB MA34.out.2.1).cell 2,(gB MA34.out.2.1).cell 3,(gB MA34.out.2.1).cell 4,(gB MA34.out.2.1).cell 5,(gB MA34.out.2.1).cell 6,(gB MA34.out.2.1).cell 7,cell_keep (w1:=wh1) (gL MA34.out.2.2.1) HY.out.1 HY.out.2.1⟩ (fun hHeld=>?_)
    clear hK K
    refine tk 11 ?_
    refine wpAnyH_done (by kernel_rfl) ?_ _
    clear hHeld
    go_wp2_with fail
    go_meet
    case rel=>exact⟨by rw[←HR.out];rfl,MA34⟩
   |false=>
    refine wp_region_held_drew (S:=(fun wx:World=>wx.cell? (ad w.heap.size 0)=some (.int .i64 p.sec))) (by kernel_rfl) ((gB M6.out.2.1).cell 0) (fun hHeld=>?_)
    have MD35:=std M6
    clear M6
    generalize W6.drew=VD11 at MD35 hHeld⊢
    refine tk 0 ?_
    refine tk 1 ?_
    refine tf 2 ?_
    refine tf 3 ?_
    refine tf 4 ?_
    refine tf 5 ?_
    refine tf 6 ?_
    refine tf 7 ?_
    refine tf 8 ?_
    refine tf 9 ?_
    refine tf 10 ?_
    refine tk 11 ?_
    refine wpAnyH_done (by kernel_rfl) ?_ _
    clear hHeld
    go_wp2_with fail
    go_meet
    case rel=>exact⟨rfl,MD35⟩
  case rest=>
   obtain⟨rfl,M7⟩:=hcut
   clear M6
   generalize wc=W7 at M7⊢
   have HB2:Hid (bkT p.hold r (S x)=if sh&&r then .taking p.hold else .idle):=HB.out.2
   clear HB
   generalize (sh&&r)=q at HB2⊢
   cases q with
   |true=>
    have HSE:Hid (∀i,i<p.ny->updN S x (.taking p.hold) i=updN S x (bkT p.hold r (S x)) i):=fun i _=>by rw[HB2.out];rfl
    have m4:W7.cell? (ad w.heap.size 4)=some (.int .i64 p.hold):=(gB M7.out.2.1).cell 4
    have m7:W7.cell? (ad w.heap.size 7)=some (.slice ia p.ny ic):=(gB M7.out.2.1).cell 7
    go_wp2_with fail
    clear m4 m7
    refine(with133 M ia p.ny ic (fun i=>(p.Y i).ns) S v x (.taking p.hold) 166 (.agg #[.int .i64 p.hold]) _ hx HPS.out.2.1 (rfl) (H.out.2.2.mono nr (gL M7.out.2.2.1) nr)).mono ?_
    rintro e wh2 ⟨ua,uc,vv,rfl,ho,hb⟩
    have MA2:Hid (Sts [kWl W7.heap.size ua p.ny uc (fun i=>(p.Y i).ns) (updN S x (.taking p.hold)) vv,kBx (w.heap.size+1) 84 z8v,kBx (w.heap.size) 84 (vDk p wb yb bb (some (ad ob 0)) no oc (some (ad pb 0)) np pc ia ic),kBn w.heap.size w] wh2):=⟨ho,(gB M7.out.1).mono hb nr,(gB M7.out.2.1).mono hb nr,⟨(gL M7.out.2.2.1).trans (hb.mono (gL M7.out.2.2.1).size),rfl⟩,trivial⟩
    clear hb ho M7
    have n7:wh2.cell? (ad w.heap.size 7)=some (.slice ia p.ny ic):=(gB MA2.out.2.2.1).cell 7
    obtain⟨nf0,nf1,nf2,nf3,nf4,nf5,nf6,nf7⟩:=(gB MA2.out.2.2.1).f8
    have hF37:=(Fr.refl (fun x=>x=w.heap.size) wh2).put 7 (.slice ua p.ny uc)
    have MA36:Hid (Sts [kWl W7.heap.size ua p.ny uc (fun i=>(p.Y i).ns) (updN S x (.taking p.hold)) vv,kBx (w.heap.size+1) 84 z8v,kBx (w.heap.size) 84 (vDk p wb yb bb (some (ad ob 0)) no oc (some (ad pb 0)) np pc ua uc),kBn w.heap.size w] _):=⟨wlf (gW MA2.out.1) (gB MA2.out.2.2.1) hF37,(gB MA2.out.2.1).fr hF37 (by omega),by have h9:=((gB MA2.out.2.2.1).set 7 (.slice ua p.ny uc));exact h9,⟨blf MA2.out.2.2.2.1 nr hF37,rfl⟩,trivial⟩
    clear hF37
    clear MA2
    go_upto_region 14 with fail
    clear n7 nf0 nf1 nf2 nf3 nf4 nf5 nf6 nf7
    generalize (wh2.setCell (ad w.heap.size 7) (.slice ua p.ny uc))=W8 at MA36⊢
    have m0:W8.cell? (ad w.heap.size 0)=some (.int .i64 p.sec):=(gB MA36.out.2.2.1).cell 0
    have m1:W8.cell? (ad w.heap.size 1)=some (.slice (some (ad wb 0)) p.nw p.nw):=(gB MA36.out.2.2.1).cell 1
    have m2:W8.cell? (ad w.heap.size 2)=some (.slice (some (ad yb 0)) p.ny p.ny):=(gB MA36.out.2.2.1).cell 2
    have m3:W8.cell? (ad w.heap.size 3)=some (.slice (some (ad bb 0)) p.nb p.nb):=(gB MA36.out.2.2.1).cell 3
    have m4:W8.cell? (ad w.heap.size 4)=some (.int .i64 p.hold):=(gB MA36.out.2.2.1).cell 4
    have m5:W8.cell? (ad w.heap.size 5)=some (.slice (some (ad ob 0)) no oc):=(gB MA36.out.2.2.1).cell 5
    have m6:W8.cell? (ad w.heap.size 6)=some (.slice (some (ad pb 0)) np pc):=(gB MA36.out.2.2.1).cell 6
    have m7:W8.cell? (ad w.heap.size 7)=some (.slice ua p.ny uc):=(gB MA36.out.2.2.1).cell 7
    go_wp2_with(refine wpList_rowH rfl 84 _ _ rfl (w.heap.size+1) #[.int .i64 p.sec,.slice (some (ad wb 0)) p.nw p.nw,.slice (some (ad yb 0)) p.ny p.ny,.slice (some (ad bb 0)) p.nb p.nb,.int .i64 p.hold,.slice (some (ad ob 0)) no oc,.slice (some (ad pb 0)) np pc,.slice ua p.ny uc] rfl rfl 84 _ (gB MA36.out.2.1) (by kernel_rfl) rfl (by kernel_rfl) (Halt.mk ?_))
    intro W9 hB9 hF9
    have MR38:Hid (Sts [kWl W7.heap.size ua p.ny uc (fun i=>(p.Y i).ns) (updN S x (.taking p.hold)) vv,kBn w.heap.size w] W9):=⟨wlf (gW MA36.out.1) (gB MA36.out.2.1) hF9,⟨blf MA36.out.2.2.2.1 (Nat.le_add_right _ 1) hF9,rfl⟩,trivial⟩
    have z0:W9.cell? (ad (w.heap.size+1) 0)=some (.int .i64 p.sec):=hB9.cell 0
    have z1:W9.cell? (ad (w.heap.size+1) 1)=some (.slice (some (ad wb 0)) p.nw p.nw):=hB9.cell 1
    have z2:W9.cell? (ad (w.heap.size+1) 2)=some (.slice (some (ad yb 0)) p.ny p.ny):=hB9.cell 2
    have z3:W9.cell? (ad (w.heap.size+1) 3)=some (.slice (some (ad bb 0)) p.nb p.nb):=hB9.cell 3
    have z4:W9.cell? (ad (w.heap.size+1) 4)=some (.int .i64 p.hold):=hB9.cell 4
    have z5:W9.cell? (ad (w.heap.size+1) 5)=some (.slice (some (ad ob 0)) no oc):=hB9.cell 5
    have z6:W9.cell? (ad (w.heap.size+1) 6)=some (.slice (some (ad pb 0)) np pc):=hB9.cell 6
    have z7:W9.cell? (ad (w.heap.size+1) 7)=some (.slice ua p.ny uc):=hB9.cell 7
    clear hF9 hB9 MA36
    go_wp2_with fail
    exact bodyPost_ret (v:=.tuple #[.agg #[.int .i64 p.sec,.slice (some (ad wb 0)) p.nw p.nw,.slice (some (ad yb 0)) p.ny p.ny,.slice (some (ad bb 0)) p.nb p.nb,.int .i64 p.hold,.slice (some (ad ob 0)) no oc,.slice (some (ad pb 0)) np pc,.slice ua p.ny uc],.nilIface]) (by simp[results,Tryz.results115,go_sem,z0,z1,z2,z3,z4,z5,z6,z7]) rfl (⟨ob,oc,pb,pc,ua,uc,by rw[HBN.out];first |done|rfl,⟨⟨M1,(H.out.1.mono nr (gL MR38.out.2.1) nr)⟩,⟨M2,(H.out.2.1.mono nr (gL MR38.out.2.1) nr)⟩,_,_,wl_next (gW MR38.out.1) HSE.out⟩,(gL MR38.out.2.1)⟩)
   |false=>
    have HSE:Hid (∀i,i<p.ny->updN S x .idle i=updN S x (bkT p.hold r (S x)) i):=fun i _=>by rw[HB2.out];rfl
    have m7:W7.cell? (ad w.heap.size 7)=some (.slice ia p.ny ic):=(gB M7.out.2.1).cell 7
    go_wp2_with fail
    clear m7
    refine(with133 M ia p.ny ic (fun i=>(p.Y i).ns) S v x (.idle) 161 (.agg #[]) _ hx HPS.out.2.1 (rfl) (H.out.2.2.mono nr (gL M7.out.2.2.1) nr)).mono ?_
    rintro e wh2 ⟨ua,uc,vv,rfl,ho,hb⟩
    have MA2:Hid (Sts [kWl W7.heap.size ua p.ny uc (fun i=>(p.Y i).ns) (updN S x (.idle)) vv,kBx (w.heap.size+1) 84 z8v,kBx (w.heap.size) 84 (vDk p wb yb bb (some (ad ob 0)) no oc (some (ad pb 0)) np pc ia ic),kBn w.heap.size w] wh2):=⟨ho,(gB M7.out.1).mono hb nr,(gB M7.out.2.1).mono hb nr,⟨(gL M7.out.2.2.1).trans (hb.mono (gL M7.out.2.2.1).size),rfl⟩,trivial⟩
    clear hb ho M7
    have n7:wh2.cell? (ad w.heap.size 7)=some (.slice ia p.ny ic):=(gB MA2.out.2.2.1).cell 7
    obtain⟨nf0,nf1,nf2,nf3,nf4,nf5,nf6,nf7⟩:=(gB MA2.out.2.2.1).f8
    have hF40:=(Fr.refl (fun x=>x=w.heap.size) wh2).put 7 (.slice ua p.ny uc)
    have MA39:Hid (Sts [kWl W7.heap.size ua p.ny uc (fun i=>(p.Y i).ns) (updN S x (.idle)) vv,kBx (w.heap.size+1) 84 z8v,kBx (w.heap.size) 84 (vDk p wb yb bb (some (ad ob 0)) no oc (some (ad pb 0)) np pc ua uc),kBn w.heap.size w] _):=⟨wlf (gW MA2.out.1) (gB MA2.out.2.2.1) hF40,(gB MA2.out.2.1).fr hF40 (by omega),by have h9:=((gB MA2.out.2.2.1).set 7 (.slice ua p.ny uc));exact h9,⟨blf MA2.out.2.2.2.1 nr hF40,rfl⟩,trivial⟩
    clear hF40
    clear MA2
    go_upto_region 14 with fail
    clear n7 nf0 nf1 nf2 nf3 nf4 nf5 nf6 nf7
    generalize (wh2.setCell (ad w.heap.size 7) (.slice ua p.ny uc))=W8 at MA39⊢
    have m0:W8.cell? (ad w.heap.size 0)=some (.int .i64 p.sec):=(gB MA39.out.2.2.1).cell 0
    have m1:W8.cell? (ad w.heap.size 1)=some (.slice (some (ad wb 0)) p.nw p.nw):=(gB MA39.out.2.2.1).cell 1
    have m2:W8.cell? (ad w.heap.size 2)=some (.slice (some (ad yb 0)) p.ny p.ny):=(gB MA39.out.2.2.1).cell 2
    have m3:W8.cell? (ad w.heap.size 3)=some (.slice (some (ad bb 0)) p.nb p.nb):=(gB MA39.out.2.2.1).cell 3
    have m4:W8.cell? (ad w.heap.size 4)=some (.int .i64 p.hold):=(gB MA39.out.2.2.1).cell 4
    have m5:W8.cell? (ad w.heap.size 5)=some (.slice (some (ad ob 0)) no oc):=(gB MA39.out.2.2.1).cell 5
    have m6:W8.cell? (ad w.heap.size 6)=some (.slice (some (ad pb 0)) np pc):=(gB MA39.out.2.2.1).cell 6
    have m7:W8.cell? (ad w.heap.size 7)=some (.slice ua p.ny uc):=(gB MA39.out.2.2.1).cell 7
    go_wp2_with(refine wpList_rowH rfl 84 _ _ rfl (w.heap.size+1) #[.int .i64 p.sec,.slice (some (ad wb 0)) p.nw p.nw,.slice (some (ad yb 0)) p.ny p.ny,.slice (some (ad bb 0)) p.nb p.nb,.int .i64 p.hold,.slice (some (ad ob 0)) no oc,.slice (some (ad pb 0)) np pc,.slice ua p.ny uc] rfl rfl 84 _ (gB MA39.out.2.1) (by kernel_rfl) rfl (by kernel_rfl) (Halt.mk ?_))
    intro W9 hB9 hF9
    have MR41:Hid (Sts [kWl W7.heap.size ua p.ny uc (fun i=>(p.Y i).ns) (updN S x (.idle)) vv,kBn w.heap.size w] W9):=⟨wlf (gW MA39.out.1) (gB MA39.out.2.1) hF9,⟨blf MA39.out.2.2.2.1 (Nat.le_add_right _ 1) hF9,rfl⟩,trivial⟩
    have z0:W9.cell? (ad (w.heap.size+1) 0)=some (.int .i64 p.sec):=hB9.cell 0
    have z1:W9.cell? (ad (w.heap.size+1) 1)=some (.slice (some (ad wb 0)) p.nw p.nw):=hB9.cell 1
    have z2:W9.cell? (ad (w.heap.size+1) 2)=some (.slice (some (ad yb 0)) p.ny p.ny):=hB9.cell 2
    have z3:W9.cell? (ad (w.heap.size+1) 3)=some (.slice (some (ad bb 0)) p.nb p.nb):=hB9.cell 3
    have z4:W9.cell? (ad (w.heap.size+1) 4)=some (.int .i64 p.hold):=hB9.cell 4
    have z5:W9.cell? (ad (w.heap.size+1) 5)=some (.slice (some (ad ob 0)) no oc):=hB9.cell 5
    have z6:W9.cell? (ad (w.heap.size+1) 6)=some (.slice (some (ad pb 0)) np pc):=hB9.cell 6
    have z7:W9.cell? (ad (w.heap.size+1) 7)=some (.slice ua p.ny uc):=hB9.cell 7
    clear hF9 hB9 MA39
    go_wp2_with fail
    exact bodyPost_ret (v:=.tuple #[.agg #[.int .i64 p.sec,.slice (some (ad wb 0)) p.nw p.nw,.slice (some (ad yb 0)) p.ny p.ny,.slice (some (ad bb 0)) p.nb p.nb,.int .i64 p.hold,.slice (some (ad ob 0)) no oc,.slice (some (ad pb 0)) np pc,.slice ua p.ny uc],.nilIface]) (by simp[results,Tryz.results115,go_sem,z0,z1,z2,z3,z4,z5,z6,z7]) rfl (⟨ob,oc,pb,pc,ua,uc,by rw[HBN.out];first |done|rfl,⟨⟨M1,(H.out.1.mono nr (gL MR41.out.2.1) nr)⟩,⟨M2,(H.out.2.1.mono nr (gL MR41.out.2.1) nr)⟩,_,_,wl_next (gW MR41.out.1) HSE.out⟩,(gL MR41.out.2.1)⟩)
end Go.Proofs.YtkeilejbelblcaaGreatDoor
namespace Go.Proofs.YtkeilejbelblcaaGreatDoor
open Go.RowKit
def idxF (S:Nat->Int) (n:Nat) (x:Int):Option Nat:=firstB (fun j=>decide (S j=x)) n
def placeZ:Option Nat->Int
 |some j=>(j:Int)
 |none=>-1
def keepN:WS->Nat->Bool
 | .idle,_=>false
 | .used g _ _,j=>decide (g<=j)
 |_,_=>true
def holdsB (p:Pl) (f:Fm) (i:Nat) (x:Int):Bool:=decide ((f.Y i).st≠0)&&anyB (fun j=>decide ((p.Y i).S j=x)&&decide ((f.Y i).gone<=(j:Int))) (p.Y i).ns
end Go.Proofs.YtkeilejbelblcaaGreatDoor
namespace Go.Proofs.YtkeilejbelblcaaGreatDoor
open Go.RowKit Go.Lib
set_option maxRecDepth 100000 in
set_option maxHeartbeats 4000000 in
theorem holds37 (p:Pl) (f:Fm) (wa ya ba oa pa ha:Option Addr) (wc yc bc oc pc hc:Nat) (i:Nat) (x:Int) (w:World) (hs:p.small) (hnh:f.nh<=1048576) (hi:i<p.ny) (hif:i<f.nh) (h:PlIn 0 w p wa ya ba) (hh:HsAt 0 w ha f.nh f.Y):
  Calls Tryz.prog 111 #[.agg #[.int .i64 p.sec,.slice wa p.nw wc,.slice ya p.ny yc,.slice ba p.nb bc,.int .i64 p.hold],.agg #[.bool f.ok,.slice oa f.no oc,.slice pa f.np pc,.slice ha f.nh hc],.int .i64 (i:Int),.int .i64 x] w fun e w'=>e=.returned (.bool (holdsB p f i x))/\Below w.heap.size w w':=by
 have hny:=hs.2.1
 have hsm:=hs.2.2.1 i hi
 obtain⟨yb,yo,rfl,_,hyl,hcy⟩:=h.wy (by omega)
 obtain⟨sa,sc,la,lc,fa,fc,oo,oc2,ma,mc,x0,_,_,_,_,hy⟩:=hcy i hi
 obtain⟨fb,fo,rfl,_,hfl,hcf⟩:=hh (by omega)
 obtain⟨ra,rc,y0,y1,_,_,_,_⟩:=hcf i hif
 have HY:Hid (VsAt 1 0 w sa (p.Y i).ns (oneF (p.Y i).S)):=hy.s
 have hns:(p.Y i).ns<=1048576:=by have :=hsm.1;omega
 clear hcy hy hcf hsm h hh
 have hi0:(0:Int)<=(i:Int):=by omega
 have hin:(i:Int)<(p.ny:Int):=by omega
 have hin2:(i:Int)<(f.nh:Int):=by omega
 have SX:Hid (Below w.heap.size w ((w.alloc (.cells (vPl p wa wc (some (ad yb yo)) yc ba bc) 37)).alloc (.cells (vFr f oa oc pa pc (some (ad fb fo)) hc) 42))):=bel2 _ _ _
 obtain⟨R,HR⟩:∃R,Hid (holdsB p f i x=R):=⟨_,rfl⟩
 rw[HR.out]
 by_cases h0:(f.Y i).st=0
 ·
  have HF:Hid (R=false):=by rw[Hid,<-HR.out,holdsB];simp[h0]
  have zz:((f.Y i).st==0)=true:=by simpa using h0
  clear h0
  go_enter Tryz.func111,Tryz.ntmps111
  go_wp2_with fail
  go_ret
  exact⟨by rw[HF.out];rfl,SX.out⟩
 ·
  have HF:Hid (∀g,anyB (fun j=>decide ((p.Y i).S j=x)&&decide ((f.Y i).gone<=(j:Int))) (p.Y i).ns=g->R=g):=fun g hg=>by rw[<-HR.out,holdsB,hg];simp[h0]
  have zz:((f.Y i).st==0)=false:=by simpa using h0
  clear h0
  go_enter Tryz.func111,Tryz.ntmps111
  go_wp2_with fail
  clear zz y0 x0
  go_loop [25] (fun c=>∃k:Nat,k<=(p.Y i).ns/\c=.int .i64 k/\Hid (∀j,j<k->(decide ((p.Y i).S j=x)&&decide ((f.Y i).gone<=(j:Int)))=false)) (fun c=>(p.Y i).ns-(intOf c).toNat)
  case atStart=>exact⟨0,Nat.zero_le _,rfl,fun j hj=>absurd hj (Nat.not_lt_zero _)⟩
  case round=>
   obtain⟨k,hk,rfl,HK⟩:=hrel
   by_cases hlt:k<(p.Y i).ns
   ·
    obtain⟨sb,so,rfl,_,hsb,hcs⟩:=HY.out (by omega)
    have c0:w.cell? (ad sb (so+k))=some (.int .i64 ((p.Y i).S k)):=by have :=hcs k hlt 0 (by omega);rwa [Nat.mul_one] at this
    have hk0:(0:Int)<=(k:Int):=by omega
    have hkn:(k:Int)<((p.Y i).ns:Int):=by omega
    clear hcs
    have HK2:Hid ((decide ((p.Y i).S k=x)&&decide ((f.Y i).gone<=(k:Int)))=false->∀j,j<k+1->(decide ((p.Y i).S j=x)&&decide ((f.Y i).gone<=(j:Int)))=false):=fun e j hj=>by
     by_cases c:j=k
     ·
      subst c
      exact e
     ·
      exact HK.out j (by omega)
    by_cases hB:(p.Y i).S k=x
    ·
     have HBB:Hid ((p.Y i).S k=x):=hB
     have zz:((p.Y i).S k==x)=true:=by simpa using hB
     clear hB
     by_cases hG:(f.Y i).gone<=(k:Int)
     ·
      have HT:Hid (R=true):=HF.out true (anyB_yes hlt (by rw[HBB.out];simp[hG]))
      go_wp2_with fail
      go_ret
      exact⟨by rw[HT.out];rfl,SX.out⟩
     ·
      have HN:Hid (∀j,j<k+1->(decide ((p.Y i).S j=x)&&decide ((f.Y i).gone<=(j:Int)))=false):=HK2.out (by simp[hG])
      go_wp2_with fail
      go_round
      case rel=>exact⟨k+1,by omega,by go_num,HN⟩
      case measure=>simp[intOf];omega
    ·
     have HN:Hid (∀j,j<k+1->(decide ((p.Y i).S j=x)&&decide ((f.Y i).gone<=(j:Int)))=false):=HK2.out (by simp[hB])
     have zz:((p.Y i).S k==x)=false:=by simpa using hB
     clear hB
     go_wp2_with fail
     go_round
     case rel=>exact⟨k+1,by omega,by go_num,HN⟩
     case measure=>simp[intOf];omega
   ·
    have HT:Hid (R=false):=HF.out false (anyB_no fun j hj=>HK.out j (by omega))
    have hge:¬((k:Int)<((p.Y i).ns:Int)):=by omega
    go_wp2_with fail
    go_ret
    exact⟨by rw[HT.out];rfl,SX.out⟩
end Go.Proofs.YtkeilejbelblcaaGreatDoor
