import Derived.Test.YtkeilejbelblcaaGreatDoorJau
namespace Go.Proofs.YtkeilejbelblcaaGreatDoor
open Go.RowKit Go.Lib
theorem infoState:(Tryz.prog.info? 132).map (fun i=>(i.zero,i.size,i.bytes))=some (some .nilIface,1,16):=by kernel_rfl
structure WlOwn (M:Nat) (w:World) (a:Option Addr) (n c:Nat) (N:Nat->Nat) (S:Nat->WS) (v:Nat->Value):Prop where
 own:VOwn M 132 1 w (.slice a n c) n (fun i _=>v i)
 ws:∀i,i<n->WsV w (N i) (S i) (v i)
 one:∀i,(v i).oneCell'=true
theorem WlOwn.mono {M M':Nat}{w w':World}{a:Option Addr}{n c:Nat}{N:Nat->Nat}{S:Nat->WS}{v:Nat->Value}{B:Nat}(h:WlOwn M w a n c N S v) (hM:M'<=M) (hb:Below B w w') (hB:w.heap.size<=B):WlOwn M' w' a n c N S v:=
 ⟨h.own.mono hM hb hB,fun i hi=>(h.ws i hi).mono hb hB,h.one⟩
theorem WlOwn.at {M:Nat}{w:World}{a:Option Addr}{n c:Nat}{N:Nat->Nat}{S:Nat->WS}{v:Nat->Value}(h:WlOwn M w a n c N S v):WlAt w a n N S:=by
 intro h0
 obtain⟨b,off,h1,_,h3,h4⟩:=h.own.vs h0
 exact⟨b,off,h1,h3,fun i hi=>⟨v i,by have :=h4 i hi 0 (by omega);rwa [Nat.mul_one] at this,h.ws i hi⟩⟩
set_option maxRecDepth 100000 in
set_option maxHeartbeats 2000000 in
theorem clone100 (M:Nat) (a:Option Addr) (n c:Nat) (v:Nat->Value) (w:World) (hn:n<=1048576) (h1:∀i,(v i).oneCell'=true) (h:VOwn M 132 1 w (.slice a n c) n (fun i _=>v i)):
  Calls Tryz.prog 108 #[.slice a n c] w fun e w'=>∃u,e=.returned u/\VOwn w.heap.size 132 1 w' u n (fun i _=>v i)/\Below w.heap.size w w':=by
 rcases h with⟨e,hn0⟩|⟨g,cp,cur,e,h2,h3,h4,h5,h6,h7⟩
 ·
  simp only[Value.slice.injEq] at e
  obtain⟨rfl,_,rfl⟩:=e
  subst hn0
  have hnil:∀W:World,(binOp .eql 82 (.slice none 0 0) (.slice none 0 0)).run Tryz.prog W=.ok (.bool true) W:=fun W=>Lib.run_eql_slice_nil W 82 132 _ 0 0 0 0 Tryz.underlying82
  go_enter Tryz.func108,Tryz.ntmps108
  go_wp2_with fail
  go_ret
  exact⟨_,rfl,VOwn.nil _ _ _ _ _,Below.refl _ _⟩
 ·
  simp only[Value.slice.injEq,true_and] at e
  obtain⟨rfl,rfl⟩:=e
  have hv:VOwn M 132 1 w (.slice (some (ad g 0)) n c) n (fun i _=>v i):=.inr ⟨g,c,cur,rfl,h2,h3,h4,h5,h6,h7⟩
  clear h2 h3 h4 h5 h6 h7
  have hnil:∀W:World,(binOp .eql 82 (.slice (some (ad g 0)) n c) (.slice none 0 0)).run Tryz.prog W=.ok (.bool false) W:=fun W=>Lib.run_eql_slice_nil W 82 132 _ n c 0 0 Tryz.underlying82
  obtain⟨i1,hi1,hz1,hs1,hb1⟩:=info_parts infoState
  have B0:=bel1 w (.cells #[] 132)
  have hrow:VOwn w.heap.size 132 1 (w.alloc (.cells #[] 132)) (.slice (some (ad w.heap.size 0)) 0 0) 0 (fun i _=>v i):=.inr ⟨_,0,#[],rfl,Nat.le_refl _,Box.new _ _ _,Nat.le_refl _,by simp[maxLen],rfl,fun i hi=>absurd hi (Nat.not_lt_zero _)⟩
  have hv2:VsAt 1 0 (w.alloc (.cells #[] 132)) (some (ad g 0)) n (fun i _=>v i):=(hv.vs.le (Nat.zero_le _)).mono nr B0 nr
  go_enter Tryz.func108,Tryz.ntmps108
  go_wp2_with(at_builtin;go_must (refine wpList_vcp _ rfl _ _ 82 rfl w.heap.size 132 i1 _ 1 16 Tryz.underlying82 hi1 hz1 hs1 hb1 rfl (by decide) (.slice (some (ad w.heap.size 0)) 0 0) (fun i _=>v i) rfl hrow g 0 n c (fun i _=>v i) rfl hv2 (fun i _=>h1 i) (by simp only[maxLen];omega) (by omega) (by simp) (Halt.mk ?_)))
  intro v2 w2 o2 g2
  have HB:Hid (VOwn w.heap.size 132 1 w2 v2 n (fun i _=>v i)/\Below w.heap.size w w2):=⟨o2,B0.grown g2 (by simp) (fun j hj=>(hrow.lt hj).1)⟩
  clear o2 g2 hrow hv2 B0 hv
  go_wp2_with fail
  go_ret
  exact⟨_,rfl,HB.out.1,HB.out.2⟩
theorem nilS166 (x:Value) (W:World):(nilAhead 390 161 x "loop.example/signalbox/impl.settle").run Tryz.prog W=.ok (some false) W:=by kernel_rfl
theorem methS166 (x:Value) (W:World):(method 390 161 x "loop.example/signalbox/impl.settle").run Tryz.prog W=.ok (194,x) W:=by kernel_rfl
theorem nilS168 (x:Value) (W:World):(nilAhead 390 163 x "loop.example/signalbox/impl.settle").run Tryz.prog W=.ok (some false) W:=by kernel_rfl
theorem methS168 (x:Value) (W:World):(method 390 163 x "loop.example/signalbox/impl.settle").run Tryz.prog W=.ok (197,x) W:=by kernel_rfl
theorem nilS169 (x:Value) (W:World):(nilAhead 390 164 x "loop.example/signalbox/impl.settle").run Tryz.prog W=.ok (some false) W:=by kernel_rfl
theorem methS169 (x:Value) (W:World):(method 390 164 x "loop.example/signalbox/impl.settle").run Tryz.prog W=.ok (204,x) W:=by kernel_rfl
theorem nilS171 (x:Value) (W:World):(nilAhead 390 166 x "loop.example/signalbox/impl.settle").run Tryz.prog W=.ok (some false) W:=by kernel_rfl
theorem methS171 (x:Value) (W:World):(method 390 166 x "loop.example/signalbox/impl.settle").run Tryz.prog W=.ok (207,x) W:=by kernel_rfl
theorem nilS174 (x:Value) (W:World):(nilAhead 390 169 x "loop.example/signalbox/impl.settle").run Tryz.prog W=.ok (some false) W:=by kernel_rfl
theorem methS174 (x:Value) (W:World):(method 390 169 x "loop.example/signalbox/impl.settle").run Tryz.prog W=.ok (200,x) W:=by kernel_rfl
theorem settle_any {y:Wy}{oa:Option Addr}{no oc:Nat}{O:Nat->Bool}{pa:Option Addr}{np pc:Nat}{P:Nat->Nat->Int}{w:World}{s:WS}{v:Value}(hn1:1<=y.ns) (hg:∀g B sh,s=.used g B sh->g<=y.ns) (h:WsV w y.ns s v):
  ∃(T:TypeId) (x:Value) (F:Nat),((T=161/\F=194)\/(T=163/\F=197)\/(T=164/\F=204)\/(T=166/\F=207)\/(T=169/\F=200))/\v=.iface T x/\(∀W,(nilAhead 390 T x "loop.example/signalbox/impl.settle").run Tryz.prog W=.ok (some false) W)/\(∀W,(method 390 T x "loop.example/signalbox/impl.settle").run Tryz.prog W=.ok (F,x) W)∧
   ∀(b1 b2 b3 b4 b5:Nat) (W:World),WsV W y.ns s v->VwIn W y b1 b2 b3 b4 b5 oa no O pa np P->Calls Tryz.prog F #[x,.agg #[.slice (some (ad b1 0)) y.ns y.ns,.slice (some (ad b2 0)) y.nl y.nl,.slice (some (ad b3 0)) y.nf y.nf,.slice (some (ad b4 0)) y.no y.no,.slice (some (ad b5 0)) y.nm y.nm,.slice oa no oc,.slice pa np pc]] W fun e w'=>SlR W y.ns (WS.settle ⟨y.ns,fun k=>O (y.S k).toNat,prvB y O P⟩ s) e w':=by
 cases s with
 |idle=>exact⟨161,_,194,.inl ⟨rfl,rfl⟩,h,nilS166 _,methS166 _,fun b1 b2 b3 b4 b5 W _ hV=>idle193 y b1 b2 b3 b4 b5 oa no oc O pa np pc P W⟩
 |set sh=>exact⟨163,_,197,.inr (.inl ⟨rfl,rfl⟩),h,nilS168 _,methS168 _,fun b1 b2 b3 b4 b5 W _ hV=>set196 y b1 b2 b3 b4 b5 oa no oc O pa np pc P sh W hn1 hV⟩
 |clear=>exact⟨164,_,204,.inr (.inr (.inl ⟨rfl,rfl⟩)),h,nilS169 _,methS169 _,fun b1 b2 b3 b4 b5 W _ hV=>clear203 y b1 b2 b3 b4 b5 oa no oc O pa np pc P W hn1 hV⟩
 |taking t=>exact⟨166,_,207,.inr (.inr (.inr (.inl ⟨rfl,rfl⟩))),h,nilS171 _,methS171 _,fun b1 b2 b3 b4 b5 W _ hV=>taking206 y b1 b2 b3 b4 b5 oa no oc O pa np pc P t W hn1 hV⟩
 |used g B sh=>
  obtain⟨rb,cap,_,rfl,_,_⟩:=h
  refine⟨169,_,200,.inr (.inr (.inr (.inr ⟨rfl,rfl⟩))),rfl,nilS174 _,methS174 _,fun b1 b2 b3 b4 b5 W hW hV=>?_⟩
  obtain⟨rb',cap',_,e,_,h3⟩:=hW
  simp at e
  obtain⟨rfl,rfl⟩:=e
  exact used199 y b1 b2 b3 b4 b5 oa no oc O pa np pc P g rb cap B sh W hn1 (hg g B sh rfl) hV h3
end Go.Proofs.YtkeilejbelblcaaGreatDoor
