import Derived.Test.YtkeilejbelblcaaGreatDoorK7
import Derived.Test.YtkeilejbelblcaaGreatDoorJai
import Derived.Laws.Tables
namespace Go.Proofs.YtkeilejbelblcaaGreatDoor
open Go.RowKit Go.Lib
theorem Fr.put {q:Nat}{w W:World}(h:Fr (fun x=>x=q) w W) (j:Nat) (u:Value):Fr (fun x=>x=q) w (W.setCell (ad q j) u):=h.cells rfl j u
theorem rl2 {P:Program}{L:List Oper}{Q:Exit->Act->World->Prop}{md:Region.Mode}{S:World->Prop}{i j:Nat}{o o':Oper}{fuel:Nat}{listed:Array Bool}{a:Act}{w:World}(hr:Region.ready md L.toArray listed= [i,j]) (ho:L[i]?=some o) (ho':L[j]?=some o')
  (h:∀K':Act->World->Prop,Shut (∀a w,S w->(S w->wpAnyH P md L.toArray Q S fuel (listed.setIfInBounds i true) a w)->K' a w)->if Region.wanted o (yielded L.toArray a.tmps)=true then Oper.wp P o a w K' Q else K' (a.put o.dst undef) w)
  (h':∀K':Act->World->Prop,Shut (∀a w,S w->(S w->wpAnyH P md L.toArray Q S fuel (listed.setIfInBounds j true) a w)->K' a w)->if Region.wanted o' (yielded L.toArray a.tmps)=true then Oper.wp P o' a w K' Q else K' (a.put o'.dst undef) w):wpAnyH P md L.toArray Q S (fuel+1) listed a w:=
 wpAnyH_ready hr (by simp) (AllReadyH.cons (by simpa using ho) h (AllReadyH.cons (by simpa using ho') h' AllReadyH.nil))
structure Kp where
 p:World->Prop
 m:∀ {W W':World},p W->Below W.heap.size W W'->p W'
def Sts:List Kp->World->Prop
 | [],_=>True
 |k::l,W=>k.p W/\Sts l W
def kBn (N:Nat) (w:World):Kp:=⟨fun W=>Below N w W/\w.heap.size=N,fun h hb=>⟨h.1.trans (hb.mono (by rw[←h.2];exact h.1.size)),h.2⟩⟩
def kBx (a:Nat) (T:TypeId) (vs:Array Value):Kp:=⟨fun W=>Box W a T vs,fun h hb=>h.mono hb nr⟩
def kOw (B:Nat) (T:TypeId) (c:Nat) (v:Value) (n:Nat) (F:Nat->Nat->Value):Kp:=⟨fun W=>VOwn B T c W v n F,fun h hb=>h.mono nr hb nr⟩
theorem bxf {a q:Nat}{T T':TypeId}{xs ys:Array Value}{W W':World}(h:Box W a T xs) (hq:Box W q T' ys) (hF:Fr (fun x=>x=q) W W') (hT:T≠T':=by decide):Box W' a T xs:=h.fr hF (fun e=>h.ne hq hT e)
theorem owf {B q c n:Nat}{T T':TypeId}{v:Value}{F:Nat->Nat->Value}{ys:Array Value}{W W':World}(h:VOwn B T c W v n F) (hq:Box W q T' ys) (hF:Fr (fun x=>x=q) W W') (hT:T'≠T:=by decide):VOwn B T c W' v n F:=h.fr hF (fun _ hg e=>h.off hq hT hg e)
theorem blf {N q:Nat}{w W W':World}(h:(kBn N w).p W) (hN:N<=q) (hF:Fr (fun x=>x=q) W W'):Below N w W':=h.1.trans (hF.below (by rw[←h.2];exact h.1.size) (fun k hk (e:k=q)=>by omega))
theorem step_row {P:Program}{ops:Array Oper}{o:Oper}{a:Act}{w:World}{K:Act->World->Prop}{Q:Exit->Act->World->Prop}{E:Prop}(hgd:o.guard=none) (ty:TypeId) (x y:Operand) (ho:o.op=.store ty x y) (g:Nat) (cells:Array Value) (hx:a.eval x=.pointer (some (ad g 0))) (hy:a.eval y=.agg cells) (t:TypeId) (old:Array Value) (hb:Box w g t old) (hi:(P.info? ty).map (·.size)=some cells.size) (hold:old.size=cells.size) (h1:cells.all (·.oneCell')=true)
  (h:∀w',Box w' g t cells->Fr (fun b=>b=g) w w'->K (a.put o.dst undef) w'):if Region.wanted o (yielded ops a.tmps)=true then Oper.wp P o a w K Q else E:=by
 have hw:Region.wanted o (yielded ops a.tmps)=true:=by simp[Region.wanted,hgd]
 rw[if_pos hw]
 exact wp_store_row ty x y ho g cells hx hy t old hb hi hold h1 (h _ (setRow_heap w g old cells t (0,0) hb) ⟨rfl,rfl,rfl,by simp,fun k _ hk=>setRow_other w g k cells hk⟩)
theorem gL {N:Nat}{w W:World}(h:(kBn N w).p W):Below N w W:=h.1
theorem gB {a:Nat}{T:TypeId}{vs:Array Value}{W:World}(h:(kBx a T vs).p W):Box W a T vs:=h
theorem gO {B:Nat}{T:TypeId}{c:Nat}{v:Value}{n:Nat}{F:Nat->Nat->Value}{W:World}(h:(kOw B T c v n F).p W):VOwn B T c W v n F:=h
theorem Sts.mono {W W':World}:∀ {l:List Kp},Sts l W->Below W.heap.size W W'->Sts l W'
 | [],_,_=>trivial
 |k::_,h,hb=>⟨k.m h.1 hb,Sts.mono h.2 hb⟩
theorem stm {l:List Kp}{W W':World}(h:Hid (Sts l W)) (hb:Below W.heap.size W W'):Hid (Sts l W'):=Sts.mono h.out hb
theorem std {l:List Kp}{W:World}(h:Hid (Sts l W)):Hid (Sts l W.drew):=Sts.mono h.out (Below.refl _ _).drew
theorem sta {l:List Kp}{W:World}(h:Hid (Sts l W)) (o:Obj):Hid (Sts l (W.alloc o)):=Sts.mono h.out (bel1 _ _)
theorem stx {k:Kp}{l:List Kp}{W:World}(h:Hid (Sts l W)) (hk:k.p W):Hid (Sts (k::l) W):=⟨hk,h.out⟩
theorem st0 (w:World):Hid (Sts [kBn w.heap.size w] w):=⟨⟨Below.refl _ _,rfl⟩,trivial⟩
theorem st1 (w:World) (T:TypeId) (v:Array Value):∃V,w.alloc (.cells v T)=V/\Hid (Sts [kBx w.heap.size T v,kBn w.heap.size w] V):=⟨_,rfl,stx (sta (st0 w) _) (Box.new _ _ _)⟩
theorem st2 (w:World) (T:TypeId) (v:Array Value) (T2:TypeId) (v2:Array Value):∃V,(w.alloc (.cells v T)).alloc (.cells v2 T2)=V/\Hid (Sts [kBx (w.heap.size+1) T2 v2,kBx w.heap.size T v,kBn w.heap.size w] V):=by
 obtain⟨V,hV,h⟩:=st1 w T v
 refine⟨_,rfl,?_⟩
 have hb:=Box.new (w.alloc (.cells v T)) T2 v2
 rw[hV] at hb⊢
 have e:V.heap.size=w.heap.size+1:=by rw[←hV];simp
 rw[e] at hb
 exact stx (sta h _) hb
theorem st3 (w:World) (T:TypeId) (v:Array Value) (T2:TypeId) (v2:Array Value) (T3:TypeId) (v3:Array Value):∃V,((w.alloc (.cells v T)).alloc (.cells v2 T2)).alloc (.cells v3 T3)=V/\Hid (Sts [kBx (w.heap.size+1+1) T3 v3,kBx (w.heap.size+1) T2 v2,kBx w.heap.size T v,kBn w.heap.size w] V):=by
 obtain⟨V,hV,h⟩:=st2 w T v T2 v2
 refine⟨_,rfl,?_⟩
 have hb:=Box.new ((w.alloc (.cells v T)).alloc (.cells v2 T2)) T3 v3
 rw[hV] at hb⊢
 have e:V.heap.size=w.heap.size+1+1:=by rw[←hV];simp
 rw[e] at hb
 exact stx (sta h _) hb
theorem wpList_rowH {P:Program}{ops:Array Oper}{rest:List Oper}{o:Oper}{a:Act}{w:World}{Q:Exit->Act->World->Prop}(hgd:o.guard=none) (ty:TypeId) (x y:Operand) (ho:o.op=.store ty x y) (g:Nat) (cells:Array Value) (hx:a.eval x=.pointer (some (ad g 0))) (hy:a.eval y=.agg cells) (t:TypeId) (old:Array Value) (hb:Box w g t old) (hi:(P.info? ty).map (·.size)=some cells.size) (hold:old.size=cells.size) (h1:cells.all (·.oneCell')=true)
  (h:Halt (∀w',Box w' g t cells->Fr (fun b=>b=g) w w'->wpList P ops Q rest (a.put o.dst undef) w')):wpList P ops Q (o::rest) a w:=
 wpList_store_row hgd ty x y ho g cells hx hy t old hb hi hold h1 (h _ (setRow_heap w g old cells t (0,0) hb) ⟨rfl,rfl,rfl,by simp,fun k _ hk=>setRow_other w g k cells hk⟩)
theorem VOwn.made1 {w:World}{b m:Nat}(hb:Box w b 4 (mk0 (.bool false) m)) (hm:m<=1048576):VsAt 1 0 w (some (ad b 0)) m (boolF fun _=>false):=(VOwn.made hb hm).vs.le (Nat.zero_le _)
set_option maxRecDepth 100000 in
set_option maxHeartbeats 4000000 in
theorem entered198 (y:Wy) (b1 b2 b3 b4 b5:Nat) (oa:Option Addr) (no oc:Nat) (O:Nat->Bool) (pa:Option Addr) (np pc:Nat) (P:Nat->Nat->Int) (sh:Bool) (w:World) (hn1:1<=y.ns) (h:VwIn w y b1 b2 b3 b4 b5 oa no O pa np P):
  Calls Tryz.prog 199 #[.bool sh,.agg #[.slice (some (ad b1 0)) y.ns y.ns,.slice (some (ad b2 0)) y.nl y.nl,.slice (some (ad b3 0)) y.nf y.nf,.slice (some (ad b4 0)) y.no y.no,.slice (some (ad b5 0)) y.nm y.nm,.slice oa no oc,.slice pa np pc]] w fun e w'=>SlR w y.ns (useS ⟨y.ns,fun k=>O (y.S k).toNat,prvB y O P⟩ 0 (fun _=>false) sh) e w':=by
 have H:Hid (VwIn w y b1 b2 b3 b4 b5 oa no O pa np P):=h
 have hns:y.ns<=1048576:=by have :=h.sm.1;omega
 clear h
 have hmk:=make_rows (P:=Tryz.prog) 27 4 _ 1 1 Tryz.underlying27 infoBool y.ns (by omega) (by omega)
 simp only[Nat.mul_one] at hmk
 have SX:Hid (Below w.heap.size w (w.alloc (.cells (vVw y b1 b2 b3 b4 b5 oa no oc pa np pc) 114))/\Box (w.alloc (.cells (vVw y b1 b2 b3 b4 b5 oa no oc pa np pc) 114)) w.heap.size 114 (vVw y b1 b2 b3 b4 b5 oa no oc pa np pc)):=⟨bel1 _ _,Box.new w 114 (vVw y b1 b2 b3 b4 b5 oa no oc pa np pc)⟩
 have BX0:=Box.new w 114 (vVw y b1 b2 b3 b4 b5 oa no oc pa np pc)
 obtain⟨v0,v1,v2,v3,v4,v5,v6⟩:=BX0.c7
 clear BX0
 go_enter Tryz.func199,Tryz.ntmps199
 go_wp2_with fail
 generalize w.alloc (.cells (vVw y b1 b2 b3 b4 b5 oa no oc pa np pc) 114)=W at *
 have hlt:w.heap.size<W.heap.size:=SX.out.2.lt
 refine wp_region_held_drew (S:=(fun wx:World=>wx.cell? (ad w.heap.size 0)=some (.slice (some (ad b1 0)) y.ns y.ns)/\wx.cell? (ad w.heap.size 1)=some (.slice (some (ad b2 0)) y.nl y.nl)/\wx.cell? (ad w.heap.size 2)=some (.slice (some (ad b3 0)) y.nf y.nf)/\wx.cell? (ad w.heap.size 3)=some (.slice (some (ad b4 0)) y.no y.no)/\wx.cell? (ad w.heap.size 4)=some (.slice (some (ad b5 0)) y.nm y.nm)/\wx.cell? (ad w.heap.size 5)=some (.slice oa no oc)/\wx.cell? (ad w.heap.size 6)=some (.slice pa np pc))) (by kernel_rfl) ?_ (fun hHeld=>?_)
 ·
  exact⟨v0,v1,v2,v3,v4,v5,v6⟩
 refine tk 0 ?_
 refine tk 1 ?_
 refine tk 2 ?_
 refine tk 3 ?_
 refine tk 5 ?_
 refine tk 7 ?_
 refine rl 4 fun K hK=>?_
 go_wp2_with fail
 have SX4:Hid (Below w.heap.size w (W.alloc (.cells (mk0 (.bool false) y.ns) 4)).drew/\Box (W.alloc (.cells (mk0 (.bool false) y.ns) 4)).drew w.heap.size 114 (vVw y b1 b2 b3 b4 b5 oa no oc pa np pc)/\Box (W.alloc (.cells (mk0 (.bool false) y.ns) 4)).drew W.heap.size 4 (mk0 (.bool false) y.ns)):=⟨(SX.out.1.alloc SX.out.1.size _).drew,(SX.out.2.alloc _).drew,(Box.new W 4 (mk0 (.bool false) y.ns)).drew⟩
 refine hK.out _ _ ?_ (fun hHeld4=>?_)
 ·
  exact d7 SX4.out.2.1
 clear hK K
 refine tk 6 ?_
 refine rl 8 fun K hK=>?_
 go_simp
 go_at_call 200
 refine(used199 y b1 b2 b3 b4 b5 oa no oc O pa np pc P 0 W.heap.size y.ns (fun _=>false) sh _ hn1 (Nat.zero_le _) (H.out.mono SX4.out.1 nr) (VOwn.made1 SX4.out.2.2 hns)).mono ?_
 rintro e w5 ⟨v,rfl,hv,hb5⟩
 have HF:Hid (SlR w y.ns (useS ⟨y.ns,fun k=>O (y.S k).toNat,prvB y O P⟩ 0 (fun _=>false) sh) (.returned v) w5):=⟨v,rfl,hv,SX4.out.1.trans (hb5.mono SX4.out.1.size)⟩
 have BX5:=SX4.out.2.1.mono hb5 nr
 go_wp2_with fail
 refine hK.out _ _ ?_ (fun hHeld8=>?_)
 ·
  exact d7 BX5
 clear hK K
 refine tk 9 ?_
 refine wpAnyH_done (by kernel_rfl) ?_ _
 go_wp2_with fail
 go_ret
 exact HF.out
set_option maxRecDepth 100000 in
set_option maxHeartbeats 4000000 in
theorem idle193 (y:Wy) (b1 b2 b3 b4 b5:Nat) (oa:Option Addr) (no oc:Nat) (O:Nat->Bool) (pa:Option Addr) (np pc:Nat) (P:Nat->Nat->Int) (w:World):
  Calls Tryz.prog 194 #[.agg #[],.agg #[.slice (some (ad b1 0)) y.ns y.ns,.slice (some (ad b2 0)) y.nl y.nl,.slice (some (ad b3 0)) y.nf y.nf,.slice (some (ad b4 0)) y.no y.no,.slice (some (ad b5 0)) y.nm y.nm,.slice oa no oc,.slice pa np pc]] w fun e w'=>SlR w y.ns (WS.settle ⟨y.ns,fun k=>O (y.S k).toNat,prvB y O P⟩ .idle) e w':=by
 have HF:Hid (SlR w y.ns (WS.settle ⟨y.ns,fun k=>O (y.S k).toNat,prvB y O P⟩ .idle) (.returned (.iface 161 (.agg #[]))) ((w.alloc (.cells #[] 161)).alloc (.cells (vVw y b1 b2 b3 b4 b5 oa no oc pa np pc) 114))):=⟨_,rfl,rfl,bel2 _ _ _⟩
 go_enter Tryz.func194,Tryz.ntmps194
 go_wp2_with fail
 go_ret
 exact HF.out
set_option maxRecDepth 100000 in
set_option maxHeartbeats 4000000 in
theorem set196 (y:Wy) (b1 b2 b3 b4 b5:Nat) (oa:Option Addr) (no oc:Nat) (O:Nat->Bool) (pa:Option Addr) (np pc:Nat) (P:Nat->Nat->Int) (sh:Bool) (w:World) (hn1:1<=y.ns) (h:VwIn w y b1 b2 b3 b4 b5 oa no O pa np P):
  Calls Tryz.prog 197 #[.agg #[.bool sh],.agg #[.slice (some (ad b1 0)) y.ns y.ns,.slice (some (ad b2 0)) y.nl y.nl,.slice (some (ad b3 0)) y.nf y.nf,.slice (some (ad b4 0)) y.no y.no,.slice (some (ad b5 0)) y.nm y.nm,.slice oa no oc,.slice pa np pc]] w fun e w'=>SlR w y.ns (WS.settle ⟨y.ns,fun k=>O (y.S k).toNat,prvB y O P⟩ (.set sh)) e w':=by
 have H:Hid (VwIn w y b1 b2 b3 b4 b5 oa no O pa np P):=h
 have hns:y.ns<=1048576:=by have :=h.sm.1;omega
 clear h
 have SX:Hid (Below w.heap.size w ((w.alloc (.cells #[.bool sh] 163)).alloc (.cells (vVw y b1 b2 b3 b4 b5 oa no oc pa np pc) 114))/\Box ((w.alloc (.cells #[.bool sh] 163)).alloc (.cells (vVw y b1 b2 b3 b4 b5 oa no oc pa np pc) 114)) w.heap.size 163 #[.bool sh]/\Box ((w.alloc (.cells #[.bool sh] 163)).alloc (.cells (vVw y b1 b2 b3 b4 b5 oa no oc pa np pc) 114)) (w.heap.size+1) 114 (vVw y b1 b2 b3 b4 b5 oa no oc pa np pc)):=⟨bel2 _ _ _,(Box.new _ _ _).alloc _,by have :=Box.new (w.alloc (.cells #[.bool sh] 163)) 114 (vVw y b1 b2 b3 b4 b5 oa no oc pa np pc);simpa using this⟩
 go_enter Tryz.func197,Tryz.ntmps197
 go_wp2_with fail
 generalize ((w.alloc (.cells #[.bool sh] 163)).alloc (.cells (vVw y b1 b2 b3 b4 b5 oa no oc pa np pc) 114))=W at *
 refine(filled197 y b1 b2 b3 b4 b5 oa no oc O pa np pc P 0 W (by omega) (H.out.mono SX.out.1 nr)).mono ?_
 rintro e w1 ⟨he,hb1⟩
 have SY:Hid (Below w.heap.size w w1/\Box w1 w.heap.size 163 #[.bool sh]/\Box w1 (w.heap.size+1) 114 (vVw y b1 b2 b3 b4 b5 oa no oc pa np pc)):=⟨SX.out.1.trans (hb1.mono SX.out.1.size),SX.out.2.1.mono hb1 nr,SX.out.2.2.mono hb1 nr⟩
 clear hb1 SX
 obtain⟨v0,v1,v2,v3,v4,v5,v6⟩:=SY.out.2.2.c7
 have u0:=SY.out.2.1.cel 0
 cases hO:O (y.S 0).toNat with
 |true=>
  rw[hO] at he
  subst he
  have HS:Hid (WS.settle ⟨y.ns,fun k=>O (y.S k).toNat,prvB y O P⟩ (.set sh)=useS ⟨y.ns,fun k=>O (y.S k).toNat,prvB y O P⟩ 0 (fun _=>false) sh):=by
   show WS.settle _ _=_
   simp[WS.settle,hO]
  go_wp2_with fail
  refine(entered198 y b1 b2 b3 b4 b5 oa no oc O pa np pc P sh w1 hn1 (H.out.mono SY.out.1 nr)).mono ?_
  rintro e w2 ⟨v,rfl,hv,hb2⟩
  have HF:Hid (SlR w y.ns (WS.settle ⟨y.ns,fun k=>O (y.S k).toNat,prvB y O P⟩ (.set sh)) (.returned v) w2):=by
   rw[Hid,HS.out]
   exact⟨v,rfl,hv,SY.out.1.trans (hb2.mono SY.out.1.size)⟩
  go_wp2_with fail
  go_ret
  exact HF.out
 |false=>
  rw[hO] at he
  subst he
  go_wp2_with fail
  refine(proved70 y b1 b2 b3 b4 b5 oa no oc O pa np pc P w1 (H.out.mono SY.out.1 nr)).mono ?_
  rintro e w2 ⟨he,hb2⟩
  have SZ:Hid (Below w.heap.size w w2/\Box w2 w.heap.size 163 #[.bool sh]):=⟨SY.out.1.trans (hb2.mono SY.out.1.size),SY.out.2.1.mono hb2 nr⟩
  have u0:=SZ.out.2.cel 0
  clear hb2 SY v0 v1 v2 v3 v4 v5 v6
  cases hp:prvB y O P with
  |true=>
   rw[hp] at he
   subst he
   have HF:Hid (SlR w y.ns (WS.settle ⟨y.ns,fun k=>O (y.S k).toNat,true⟩ (.set sh)) (.returned (.iface 164 (.agg #[]))) w2):=by
    have :WS.settle ⟨y.ns,fun k=>O (y.S k).toNat,true⟩ (.set sh)=.clear:=by simp[WS.settle,hO]
    rw[Hid,this]
    exact⟨_,rfl,rfl,SZ.out.1⟩
   go_wp2_with fail
   go_ret
   rw[<-hp] at HF
   exact HF.out
  |false=>
   rw[hp] at he
   subst he
   have HF:Hid (SlR w y.ns (WS.settle ⟨y.ns,fun k=>O (y.S k).toNat,false⟩ (.set sh)) (.returned (.iface 163 (.agg #[.bool sh]))) w2):=by
    have :WS.settle ⟨y.ns,fun k=>O (y.S k).toNat,false⟩ (.set sh)=.set sh:=by simp[WS.settle,hO]
    rw[Hid,this]
    exact⟨_,rfl,rfl,SZ.out.1⟩
   go_wp2_with fail
   go_ret
   rw[<-hp] at HF
   exact HF.out
set_option maxRecDepth 100000 in
set_option maxHeartbeats 4000000 in
theorem taking206 (y:Wy) (b1 b2 b3 b4 b5:Nat) (oa:Option Addr) (no oc:Nat) (O:Nat->Bool) (pa:Option Addr) (np pc:Nat) (P:Nat->Nat->Int) (t:Int) (w:World) (hn1:1<=y.ns) (h:VwIn w y b1 b2 b3 b4 b5 oa no O pa np P):
  Calls Tryz.prog 207 #[.agg #[.int .i64 t],.agg #[.slice (some (ad b1 0)) y.ns y.ns,.slice (some (ad b2 0)) y.nl y.nl,.slice (some (ad b3 0)) y.nf y.nf,.slice (some (ad b4 0)) y.no y.no,.slice (some (ad b5 0)) y.nm y.nm,.slice oa no oc,.slice pa np pc]] w fun e w'=>SlR w y.ns (WS.settle ⟨y.ns,fun k=>O (y.S k).toNat,prvB y O P⟩ (.taking t)) e w':=by
 have H:Hid (VwIn w y b1 b2 b3 b4 b5 oa no O pa np P):=h
 have hns:y.ns<=1048576:=by have :=h.sm.1;omega
 clear h
 have SX:Hid (Below w.heap.size w ((w.alloc (.cells #[.int .i64 t] 166)).alloc (.cells (vVw y b1 b2 b3 b4 b5 oa no oc pa np pc) 114))/\Box ((w.alloc (.cells #[.int .i64 t] 166)).alloc (.cells (vVw y b1 b2 b3 b4 b5 oa no oc pa np pc) 114)) w.heap.size 166 #[.int .i64 t]/\Box ((w.alloc (.cells #[.int .i64 t] 166)).alloc (.cells (vVw y b1 b2 b3 b4 b5 oa no oc pa np pc) 114)) (w.heap.size+1) 114 (vVw y b1 b2 b3 b4 b5 oa no oc pa np pc)):=⟨bel2 _ _ _,(Box.new _ _ _).alloc _,by have :=Box.new (w.alloc (.cells #[.int .i64 t] 166)) 114 (vVw y b1 b2 b3 b4 b5 oa no oc pa np pc);simpa using this⟩
 go_enter Tryz.func207,Tryz.ntmps207
 go_wp2_with fail
 generalize ((w.alloc (.cells #[.int .i64 t] 166)).alloc (.cells (vVw y b1 b2 b3 b4 b5 oa no oc pa np pc) 114))=W at *
 refine(filled197 y b1 b2 b3 b4 b5 oa no oc O pa np pc P 0 W (by omega) (H.out.mono SX.out.1 nr)).mono ?_
 rintro e w1 ⟨he,hb1⟩
 have SY:Hid (Below w.heap.size w w1/\Box w1 w.heap.size 166 #[.int .i64 t]/\Box w1 (w.heap.size+1) 114 (vVw y b1 b2 b3 b4 b5 oa no oc pa np pc)):=⟨SX.out.1.trans (hb1.mono SX.out.1.size),SX.out.2.1.mono hb1 nr,SX.out.2.2.mono hb1 nr⟩
 clear hb1 SX
 obtain⟨v0,v1,v2,v3,v4,v5,v6⟩:=SY.out.2.2.c7
 have u0:=SY.out.2.1.cel 0
 cases hO:O (y.S 0).toNat with
 |true=>
  rw[hO] at he
  subst he
  have HS:Hid (WS.settle ⟨y.ns,fun k=>O (y.S k).toNat,prvB y O P⟩ (.taking t)=useS ⟨y.ns,fun k=>O (y.S k).toNat,prvB y O P⟩ 0 (fun _=>false) true):=by
   show WS.settle _ _=_
   simp[WS.settle,hO]
  go_wp2_with fail
  refine(entered198 y b1 b2 b3 b4 b5 oa no oc O pa np pc P true w1 hn1 (H.out.mono SY.out.1 nr)).mono ?_
  rintro e w2 ⟨v,rfl,hv,hb2⟩
  have HF:Hid (SlR w y.ns (WS.settle ⟨y.ns,fun k=>O (y.S k).toNat,prvB y O P⟩ (.taking t)) (.returned v) w2):=by
   rw[Hid,HS.out]
   exact⟨v,rfl,hv,SY.out.1.trans (hb2.mono SY.out.1.size)⟩
  go_wp2_with fail
  go_ret
  exact HF.out
 |false=>
  rw[hO] at he
  subst he
  have HF:Hid (SlR w y.ns (WS.settle ⟨y.ns,fun k=>O (y.S k).toNat,prvB y O P⟩ (.taking t)) (.returned (.iface 166 (.agg #[.int .i64 t]))) w1):=by
   have :WS.settle ⟨y.ns,fun k=>O (y.S k).toNat,prvB y O P⟩ (.taking t)=.taking t:=by simp[WS.settle,hO]
   rw[Hid,this]
   exact⟨_,rfl,rfl,SY.out.1⟩
  go_wp2_with fail
  go_ret
  exact HF.out
set_option maxRecDepth 100000 in
set_option maxHeartbeats 4000000 in
theorem clear203 (y:Wy) (b1 b2 b3 b4 b5:Nat) (oa:Option Addr) (no oc:Nat) (O:Nat->Bool) (pa:Option Addr) (np pc:Nat) (P:Nat->Nat->Int) (w:World) (hn1:1<=y.ns) (h:VwIn w y b1 b2 b3 b4 b5 oa no O pa np P):
  Calls Tryz.prog 204 #[.agg #[],.agg #[.slice (some (ad b1 0)) y.ns y.ns,.slice (some (ad b2 0)) y.nl y.nl,.slice (some (ad b3 0)) y.nf y.nf,.slice (some (ad b4 0)) y.no y.no,.slice (some (ad b5 0)) y.nm y.nm,.slice oa no oc,.slice pa np pc]] w fun e w'=>SlR w y.ns (WS.settle ⟨y.ns,fun k=>O (y.S k).toNat,prvB y O P⟩ .clear) e w':=by
 have H:Hid (VwIn w y b1 b2 b3 b4 b5 oa no O pa np P):=h
 have hns:y.ns<=1048576:=by have :=h.sm.1;omega
 clear h
 have HS:Hid (WS.settle ⟨y.ns,fun k=>O (y.S k).toNat,prvB y O P⟩ .clear=WS.settle ⟨y.ns,fun k=>O (y.S k).toNat,prvB y O P⟩ (.set true)):=rfl
 have SX:Hid (Below w.heap.size w ((w.alloc (.cells #[] 164)).alloc (.cells (vVw y b1 b2 b3 b4 b5 oa no oc pa np pc) 114))/\Box ((w.alloc (.cells #[] 164)).alloc (.cells (vVw y b1 b2 b3 b4 b5 oa no oc pa np pc) 114)) w.heap.size 164 #[]/\Box ((w.alloc (.cells #[] 164)).alloc (.cells (vVw y b1 b2 b3 b4 b5 oa no oc pa np pc) 114)) (w.heap.size+1) 114 (vVw y b1 b2 b3 b4 b5 oa no oc pa np pc)):=⟨bel2 _ _ _,(Box.new _ _ _).alloc _,by have :=Box.new (w.alloc (.cells #[] 164)) 114 (vVw y b1 b2 b3 b4 b5 oa no oc pa np pc);simpa using this⟩
 go_enter Tryz.func204,Tryz.ntmps204
 go_wp2_with fail
 generalize ((w.alloc (.cells #[] 164)).alloc (.cells (vVw y b1 b2 b3 b4 b5 oa no oc pa np pc) 114))=W at *
 refine(set196 y b1 b2 b3 b4 b5 oa no oc O pa np pc P true W hn1 (H.out.mono SX.out.1 nr)).mono ?_
 rintro e w2 ⟨v,rfl,hv,hb2⟩
 have HF:Hid (SlR w y.ns (WS.settle ⟨y.ns,fun k=>O (y.S k).toNat,prvB y O P⟩ .clear) (.returned v) w2):=by
  rw[Hid,HS.out]
  exact⟨v,rfl,hv,SX.out.1.trans (hb2.mono SX.out.1.size)⟩
 go_wp2_with fail
 go_ret
 exact HF.out
theorem box_set7 {w:World}{b:Nat}{T:TypeId}{z0 z1 z2 z3 z4 z5 z6 v0 v1 v2 v3 v4 v5 v6:Value}(h:Box w b T #[z0,z1,z2,z3,z4,z5,z6]):Box (((((((w.setCell (ad b 0) (v0)).setCell (ad b 1) (v1)).setCell (ad b 2) (v2)).setCell (ad b 3) (v3)).setCell (ad b 4) (v4)).setCell (ad b 5) (v5)).setCell (ad b 6) (v6)) b T #[v0,v1,v2,v3,v4,v5,v6]:=by
 have h0:=h.set 0 v0
 have h1:=h0.set 1 v1
 have h2:=h1.set 2 v2
 have h3:=h2.set 3 v3
 have h4:=h3.set 4 v4
 have h5:=h4.set 5 v5
 have h6:=h5.set 6 v6
 simpa using h6
theorem heap_set7 {w:World}{b g:Nat}{v0 v1 v2 v3 v4 v5 v6:Value}(h:g≠b):(((((((w.setCell (ad b 0) (v0)).setCell (ad b 1) (v1)).setCell (ad b 2) (v2)).setCell (ad b 3) (v3)).setCell (ad b 4) (v4)).setCell (ad b 5) (v5)).setCell (ad b 6) (v6)).heap[g]?=w.heap[g]?:=by
 have k:∀(u:World) (i:Nat) (v:Value),(u.setCell (ad b i) v).heap[g]?=u.heap[g]?:=fun u i v=>Below.heap_setCell u (ad b i) v g h
 rw[k,k,k,k,k,k,k]
theorem below_set7 {M:Nat}{w0 w:World}{b:Nat}{v0 v1 v2 v3 v4 v5 v6:Value}(h:Below M w0 w) (hb:M<=b):Below M w0 (((((((w.setCell (ad b 0) (v0)).setCell (ad b 1) (v1)).setCell (ad b 2) (v2)).setCell (ad b 3) (v3)).setCell (ad b 4) (v4)).setCell (ad b 5) (v5)).setCell (ad b 6) (v6)):=by
 have k:∀ {u:World}(i:Nat) (v:Value),Below M w0 u->Below M w0 (u.setCell (ad b i) v):=fun i v hu=>hu.setCell (show M<=((ad b i):Addr).block from hb) v
 exact k 6 _ (k 5 _ (k 4 _ (k 3 _ (k 2 _ (k 1 _ (k 0 _ h))))))
def VwR (w:World) (y:Wy) (oa:Option Addr) (no oc:Nat) (O:Nat->Bool) (pa:Option Addr) (np pc:Nat) (P:Nat->Nat->Int) (e:Ending) (w':World):Prop:=
 ∃b1 b2 b3 b4 b5,e=.returned (.agg #[.slice (some (ad b1 0)) y.ns y.ns,.slice (some (ad b2 0)) y.nl y.nl,.slice (some (ad b3 0)) y.nf y.nf,.slice (some (ad b4 0)) y.no y.no,.slice (some (ad b5 0)) y.nm y.nm,.slice oa no oc,.slice pa np pc])/\VwIn w' y b1 b2 b3 b4 b5 oa no O pa np P/\Below w.heap.size w w'
theorem WyOwn.in_ {C:Nat}{w:World}{y:Wy}{b1 b2 b3 b4 b5:Nat}(h:WyOwn C w y b1 b2 b3 b4 b5):WyIn 0 w y (some (ad b1 0)) (some (ad b2 0)) (some (ad b3 0)) (some (ad b4 0)) (some (ad b5 0)):=
 ⟨h.s.vs.le (Nat.zero_le _),h.l.vs.le (Nat.zero_le _),h.f.vs.le (Nat.zero_le _),h.o.vs.le (Nat.zero_le _),h.m.vs.le (Nat.zero_le _)⟩
set_option maxRecDepth 100000 in
set_option maxHeartbeats 8000000 in
theorem view69 (p:Pl) (wb yb bb:Nat) (lo rr:Nat->Nat) (oa:Option Addr) (no oc:Nat) (pa:Option Addr) (np pc:Nat) (ia:Option Addr) (ic:Nat) (O:Nat->Bool) (P:Nat->Nat->Int) (k:Nat) (w:World) (hk:k<p.ny) (hs:p.small) (hP:PlOwn 0 w p wb yb bb lo rr) (ho:VsAt 1 0 w oa no (boolF O)) (hp:VsAt 2 0 w pa np (intF P)) (hin:(p.Y k).In no np) (hno:no<=1048576) (hnp:np<=1048576):
  Calls Tryz.prog 68 #[.agg #[.int .i64 p.sec,.slice (some (ad wb 0)) p.nw p.nw,.slice (some (ad yb 0)) p.ny p.ny,.slice (some (ad bb 0)) p.nb p.nb,.int .i64 p.hold,.slice oa no oc,.slice pa np pc,.slice ia p.ny ic],.int .i64 (k:Int)] w fun e w'=>VwR w (p.Y k) oa no oc O pa np pc P e w':=by
 have hny:=hs.2.1
 have hsm:=hs.2.2.1 k hk
 obtain⟨vs,hbx,_,_,_,_,hrow⟩:=hP.wy
 obtain⟨b1,b2,b3,b4,b5,hr⟩:=hrow k hk
 have HV:Hid (VwIn w (p.Y k) b1 b2 b3 b4 b5 oa no O pa np P):=⟨hr.own.in_,ho,hp,hin,hsm,hno,hnp⟩
 have hyl:=hbx.lt
 have SX:Hid (Below w.heap.size w ((w.alloc (.cells (vDk p wb yb bb oa no oc pa np pc ia ic) 84)).alloc (.cells #[.slice none 0 0,.slice none 0 0,.slice none 0 0,.slice none 0 0,.slice none 0 0,.slice none 0 0,.slice none 0 0] 114))/\Box ((w.alloc (.cells (vDk p wb yb bb oa no oc pa np pc ia ic) 84)).alloc (.cells #[.slice none 0 0,.slice none 0 0,.slice none 0 0,.slice none 0 0,.slice none 0 0,.slice none 0 0,.slice none 0 0] 114)) w.heap.size 84 (vDk p wb yb bb oa no oc pa np pc ia ic)/\Box ((w.alloc (.cells (vDk p wb yb bb oa no oc pa np pc ia ic) 84)).alloc (.cells #[.slice none 0 0,.slice none 0 0,.slice none 0 0,.slice none 0 0,.slice none 0 0,.slice none 0 0,.slice none 0 0] 114)) (w.heap.size+1) 114 #[.slice none 0 0,.slice none 0 0,.slice none 0 0,.slice none 0 0,.slice none 0 0,.slice none 0 0,.slice none 0 0]/\Box ((w.alloc (.cells (vDk p wb yb bb oa no oc pa np pc ia ic) 84)).alloc (.cells #[.slice none 0 0,.slice none 0 0,.slice none 0 0,.slice none 0 0,.slice none 0 0,.slice none 0 0,.slice none 0 0] 114)) yb 112 vs):=⟨bel2 _ _ _,(Box.new _ _ _).alloc _,by have :=Box.new (w.alloc (.cells (vDk p wb yb bb oa no oc pa np pc ia ic) 84)) 114 #[.slice none 0 0,.slice none 0 0,.slice none 0 0,.slice none 0 0,.slice none 0 0,.slice none 0 0,.slice none 0 0];simpa using this,hbx.mono (bel2 _ _ _) nr⟩
 have hk0:(0:Int)<=(k:Int):=by omega
 have hkn:(k:Int)<(p.ny:Int):=by omega
 clear hP ho hp hin hrow hbx
 go_enter Tryz.func68,Tryz.ntmps68
 go_wp2_with fail
 generalize ((w.alloc (.cells (vDk p wb yb bb oa no oc pa np pc ia ic) 84)).alloc (.cells #[.slice none 0 0,.slice none 0 0,.slice none 0 0,.slice none 0 0,.slice none 0 0,.slice none 0 0,.slice none 0 0] 114))=W at SX⊢
 have HR0:Hid (vs[k*5]?=some (.slice (some (ad b1 0)) (p.Y k).ns (p.Y k).ns)/\vs[k*5+1]?=some (.slice (some (ad b2 0)) (p.Y k).nl (p.Y k).nl)/\vs[k*5+2]?=some (.slice (some (ad b3 0)) (p.Y k).nf (p.Y k).nf)/\vs[k*5+3]?=some (.slice (some (ad b4 0)) (p.Y k).no (p.Y k).no)/\vs[k*5+4]?=some (.slice (some (ad b5 0)) (p.Y k).nm (p.Y k).nm)):=⟨hr.c0,hr.c1,hr.c2,hr.c3,hr.c4⟩
 have HF:Hid (Below w.heap.size w (((((((W.setCell (ad (w.heap.size+1) 0) (.slice (some (ad b1 0)) (p.Y k).ns (p.Y k).ns)).setCell (ad (w.heap.size+1) 1) (.slice (some (ad b2 0)) (p.Y k).nl (p.Y k).nl)).setCell (ad (w.heap.size+1) 2) (.slice (some (ad b3 0)) (p.Y k).nf (p.Y k).nf)).setCell (ad (w.heap.size+1) 3) (.slice (some (ad b4 0)) (p.Y k).no (p.Y k).no)).setCell (ad (w.heap.size+1) 4) (.slice (some (ad b5 0)) (p.Y k).nm (p.Y k).nm)).setCell (ad (w.heap.size+1) 5) (.slice oa no oc)).setCell (ad (w.heap.size+1) 6) (.slice pa np pc)).drew/\Box (((((((W.setCell (ad (w.heap.size+1) 0) (.slice (some (ad b1 0)) (p.Y k).ns (p.Y k).ns)).setCell (ad (w.heap.size+1) 1) (.slice (some (ad b2 0)) (p.Y k).nl (p.Y k).nl)).setCell (ad (w.heap.size+1) 2) (.slice (some (ad b3 0)) (p.Y k).nf (p.Y k).nf)).setCell (ad (w.heap.size+1) 3) (.slice (some (ad b4 0)) (p.Y k).no (p.Y k).no)).setCell (ad (w.heap.size+1) 4) (.slice (some (ad b5 0)) (p.Y k).nm (p.Y k).nm)).setCell (ad (w.heap.size+1) 5) (.slice oa no oc)).setCell (ad (w.heap.size+1) 6) (.slice pa np pc)).drew (w.heap.size+1) 114 (vVw (p.Y k) b1 b2 b3 b4 b5 oa no oc pa np pc)/\Box (((((((W.setCell (ad (w.heap.size+1) 0) (.slice (some (ad b1 0)) (p.Y k).ns (p.Y k).ns)).setCell (ad (w.heap.size+1) 1) (.slice (some (ad b2 0)) (p.Y k).nl (p.Y k).nl)).setCell (ad (w.heap.size+1) 2) (.slice (some (ad b3 0)) (p.Y k).nf (p.Y k).nf)).setCell (ad (w.heap.size+1) 3) (.slice (some (ad b4 0)) (p.Y k).no (p.Y k).no)).setCell (ad (w.heap.size+1) 4) (.slice (some (ad b5 0)) (p.Y k).nm (p.Y k).nm)).setCell (ad (w.heap.size+1) 5) (.slice oa no oc)).setCell (ad (w.heap.size+1) 6) (.slice pa np pc)).drew w.heap.size 84 (vDk p wb yb bb oa no oc pa np pc ia ic)/\Box (((((((W.setCell (ad (w.heap.size+1) 0) (.slice (some (ad b1 0)) (p.Y k).ns (p.Y k).ns)).setCell (ad (w.heap.size+1) 1) (.slice (some (ad b2 0)) (p.Y k).nl (p.Y k).nl)).setCell (ad (w.heap.size+1) 2) (.slice (some (ad b3 0)) (p.Y k).nf (p.Y k).nf)).setCell (ad (w.heap.size+1) 3) (.slice (some (ad b4 0)) (p.Y k).no (p.Y k).no)).setCell (ad (w.heap.size+1) 4) (.slice (some (ad b5 0)) (p.Y k).nm (p.Y k).nm)).setCell (ad (w.heap.size+1) 5) (.slice oa no oc)).setCell (ad (w.heap.size+1) 6) (.slice pa np pc)).drew yb 112 vs):=by
  exact⟨(below_set7 SX.out.1 (by omega)).drew,(box_set7 SX.out.2.2.1).drew,(SX.out.2.1.keep (heap_set7 (by omega))).drew,(SX.out.2.2.2.keep (heap_set7 (by omega))).drew⟩
 clear hr
 have x2:=SX.out.2.1.cel 2
 have x5:=SX.out.2.1.cel 5
 have x6:=SX.out.2.1.cel 6
 have y0:W.cell? (ad yb (k*5))=some (.slice (some (ad b1 0)) (p.Y k).ns (p.Y k).ns):=(SX.out.2.2.2.cell _).trans HR0.out.1
 have y1:W.cell? (ad yb (k*5+1))=some (.slice (some (ad b2 0)) (p.Y k).nl (p.Y k).nl):=(SX.out.2.2.2.cell _).trans HR0.out.2.1
 have y2:W.cell? (ad yb (k*5+2))=some (.slice (some (ad b3 0)) (p.Y k).nf (p.Y k).nf):=(SX.out.2.2.2.cell _).trans HR0.out.2.2.1
 have y3:W.cell? (ad yb (k*5+3))=some (.slice (some (ad b4 0)) (p.Y k).no (p.Y k).no):=(SX.out.2.2.2.cell _).trans HR0.out.2.2.2.1
 have y4:W.cell? (ad yb (k*5+4))=some (.slice (some (ad b5 0)) (p.Y k).nm (p.Y k).nm):=(SX.out.2.2.2.cell _).trans HR0.out.2.2.2.2
 obtain⟨z0,z1,z2,z3,z4,z5,z6⟩:=SX.out.2.2.1.c7
 obtain⟨f0,f1,f2,f3,f4,f5,f6⟩:=SX.out.2.2.1.f7
 refine wp_region_held_drew (S:=(fun wx:World=>wx.cell? (ad w.heap.size 2)=some (.slice (some (ad yb 0)) p.ny p.ny)/\wx.cell? (ad w.heap.size 5)=some (.slice oa no oc)/\wx.cell? (ad w.heap.size 6)=some (.slice pa np pc)/\wx.cell? (ad yb (k*5))=some (.slice (some (ad b1 0)) (p.Y k).ns (p.Y k).ns)/\wx.cell? (ad yb (k*5+1))=some (.slice (some (ad b2 0)) (p.Y k).nl (p.Y k).nl)/\wx.cell? (ad yb (k*5+2))=some (.slice (some (ad b3 0)) (p.Y k).nf (p.Y k).nf)/\wx.cell? (ad yb (k*5+3))=some (.slice (some (ad b4 0)) (p.Y k).no (p.Y k).no)/\wx.cell? (ad yb (k*5+4))=some (.slice (some (ad b5 0)) (p.Y k).nm (p.Y k).nm))) (by kernel_rfl) ?_ (fun hHeld=>?_)
 ·
  exact⟨x2,x5,x6,y0,y1,y2,y3,y4⟩
 refine tk 0 ?_
 refine tk 1 ?_
 refine tk 2 ?_
 refine tk 3 ?_
 refine tk 4 ?_
 refine tk 5 ?_
 refine tk 6 ?_
 refine tk 7 ?_
 refine tk 8 ?_
 refine tk 9 ?_
 refine tk 10 ?_
 refine rl 11 fun K hK=>?_
 go_simp
 refine hK.out _ _ ?_ (fun hHeld11=>?_)
 ·
  exact⟨HF.out.2.2.1.cell 2,HF.out.2.2.1.cell 5,HF.out.2.2.1.cell 6,(HF.out.2.2.2.cell _).trans ((SX.out.2.2.2.cell _).symm.trans y0),(HF.out.2.2.2.cell _).trans ((SX.out.2.2.2.cell _).symm.trans y1),(HF.out.2.2.2.cell _).trans ((SX.out.2.2.2.cell _).symm.trans y2),(HF.out.2.2.2.cell _).trans ((SX.out.2.2.2.cell _).symm.trans y3),(HF.out.2.2.2.cell _).trans ((SX.out.2.2.2.cell _).symm.trans y4)⟩
 clear hK K
 refine wpAnyH_done (by kernel_rfl) ?_ _
 generalize (((((((W.setCell (ad (w.heap.size+1) 0) (.slice (some (ad b1 0)) (p.Y k).ns (p.Y k).ns)).setCell (ad (w.heap.size+1) 1) (.slice (some (ad b2 0)) (p.Y k).nl (p.Y k).nl)).setCell (ad (w.heap.size+1) 2) (.slice (some (ad b3 0)) (p.Y k).nf (p.Y k).nf)).setCell (ad (w.heap.size+1) 3) (.slice (some (ad b4 0)) (p.Y k).no (p.Y k).no)).setCell (ad (w.heap.size+1) 4) (.slice (some (ad b5 0)) (p.Y k).nm (p.Y k).nm)).setCell (ad (w.heap.size+1) 5) (.slice oa no oc)).setCell (ad (w.heap.size+1) 6) (.slice pa np pc)).drew=W9 at *
 obtain⟨d0,d1,d2,d3,d4,d5,d6⟩:=HF.out.2.1.c7
 have HR:Hid (VwR w (p.Y k) oa no oc O pa np pc P (.returned (.agg #[.slice (some (ad b1 0)) (p.Y k).ns (p.Y k).ns,.slice (some (ad b2 0)) (p.Y k).nl (p.Y k).nl,.slice (some (ad b3 0)) (p.Y k).nf (p.Y k).nf,.slice (some (ad b4 0)) (p.Y k).no (p.Y k).no,.slice (some (ad b5 0)) (p.Y k).nm (p.Y k).nm,.slice oa no oc,.slice pa np pc])) W9):=⟨b1,b2,b3,b4,b5,rfl,HV.out.mono HF.out.1 nr,HF.out.1⟩
 go_wp2_with fail
 exact bodyPost_ret (v:=.agg #[.slice (some (ad b1 0)) (p.Y k).ns (p.Y k).ns,.slice (some (ad b2 0)) (p.Y k).nl (p.Y k).nl,.slice (some (ad b3 0)) (p.Y k).nf (p.Y k).nf,.slice (some (ad b4 0)) (p.Y k).no (p.Y k).no,.slice (some (ad b5 0)) (p.Y k).nm (p.Y k).nm,.slice oa no oc,.slice pa np pc]) (by simp[results,Tryz.results68,go_sem,d0,d1,d2,d3,d4,d5,d6]) rfl HR.out
end Go.Proofs.YtkeilejbelblcaaGreatDoor
