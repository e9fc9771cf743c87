import Derived.Test.YtkeilejbelblcaaGreatDoorK10
namespace Go.Proofs.YtkeilejbelblcaaGreatDoor
open Go.RowKit Go.Lib
theorem box_set8 {w:World}{b:Nat}{T:TypeId}{z0 z1 z2 z3 z4 z5 z6 z7 v0 v1 v2 v3 v4 v5 v6 v7:Value}(h:Box w b T #[z0,z1,z2,z3,z4,z5,z6,z7]):Box ((((((((w.setCell (ad b 0) (v0)).setCell (ad b 1) (v1)).setCell (ad b 2) (v2)).setCell (ad b 3) (v3)).setCell (ad b 4) (v4)).setCell (ad b 5) (v5)).setCell (ad b 6) (v6)).setCell (ad b 7) (v7)) b T #[v0,v1,v2,v3,v4,v5,v6,v7]:=by
 have h7:=(((((((h.set 0 v0).set 1 v1).set 2 v2).set 3 v3).set 4 v4).set 5 v5).set 6 v6).set 7 v7
 simpa using h7
theorem heap_set8 {w:World}{b g:Nat}{v0 v1 v2 v3 v4 v5 v6 v7:Value}(h:g≠b):((((((((w.setCell (ad b 0) (v0)).setCell (ad b 1) (v1)).setCell (ad b 2) (v2)).setCell (ad b 3) (v3)).setCell (ad b 4) (v4)).setCell (ad b 5) (v5)).setCell (ad b 6) (v6)).setCell (ad b 7) (v7)).heap[g]?=w.heap[g]?:=by
 have k:∀(u:World) (i:Nat) (v:Value),(u.setCell (ad b i) v).heap[g]?=u.heap[g]?:=fun u i v=>Below.heap_setCell u (ad b i) v g h
 rw[k,k,k,k,k,k,k,k]
theorem below_set8 {M:Nat}{w0 w:World}{b:Nat}{v0 v1 v2 v3 v4 v5 v6 v7:Value}(h:Below M w0 w) (hb:M<=b):Below M w0 ((((((((w.setCell (ad b 0) (v0)).setCell (ad b 1) (v1)).setCell (ad b 2) (v2)).setCell (ad b 3) (v3)).setCell (ad b 4) (v4)).setCell (ad b 5) (v5)).setCell (ad b 6) (v6)).setCell (ad b 7) (v7)):=by
 have k:∀ {u:World}(i:Nat) (v:Value),Below M w0 u->Below M w0 (u.setCell (ad b i) v):=fun i v hu=>hu.setCell (show M<=((ad b i):Addr).block from hb) v
 exact k 7 _ (k 6 _ (k 5 _ (k 4 _ (k 3 _ (k 2 _ (k 1 _ (k 0 _ h)))))))
theorem WsV.by_ {w w':World}{n:Nat}{s:WS}{v:Value}(h:WsV w n s v) (hk:∀b cur,Box w b 4 cur->w'.heap[b]?=w.heap[b]?):WsV w' n s v:=by
 cases s with
 |used g B sh=>
  obtain⟨b,cap,cur,h1,h2,h3⟩:=h
  have e:=hk b cur h2
  refine⟨b,cap,cur,h1,h2.keep e,fun h0=>?_⟩
  obtain⟨b',off,e2,k1,k2,k3⟩:=h3 h0
  simp only[Option.some.injEq,Addr.mk.injEq,and_true] at e2
  obtain⟨rfl,rfl⟩:=e2
  exact⟨_,_,rfl,k1,(h2.keep e).lt,fun i hi j hj=>(World.cell?_of_block (a:=(ad _ _)) e).trans (k3 i hi j hj)⟩
 |idle=>exact h
 |set sh=>exact h
 |clear=>exact h
 |taking t=>exact h
theorem updL_step {M:Nat}{w:World}{ub ny uc q:Nat}{N:Nat->Nat}{S S':Nat->WS}{v:Nat->Value}{x:Value}(h:WlOwn M w (some (ad ub 0)) ny uc N S v) (hq:q<ny) (hx:∃t z,x=.iface t z) (hw:WsV (w.setCell (ad ub q) x) (N q) (S' q) x) (hk:∀i,i<ny->i≠q->S' i=S i/\WsV (w.setCell (ad ub q) x) (N i) (S i) (v i)):
  WlOwn M (w.setCell (ad ub q) x) (some (ad ub 0)) ny uc N S' (fun i=>if i=q then x else v i):=by
 have h1:=h.own.store (i:=q) (j:=0) hq (by omega) x
 rw[Nat.mul_one,Nat.add_zero] at h1
 refine⟨h1.congr fun i hi j hj=>?_,fun i hi=>?_,fun i=>?_⟩
 ·
  obtain rfl:j=0:=by omega
  unfold upd
  by_cases c:i=q
  ·
   simp[c]
  ·
   simp[c]
 ·
  by_cases c:i=q
  ·
   subst c
   simp only[if_true]
   exact hw
  ·
   simp only[c,if_false]
   rw[(hk i hi c).1]
   exact(hk i hi c).2
 ·
  by_cases c:i=q
  ·
   simp only[c,if_true]
   obtain⟨t,z,rfl⟩:=hx
   rfl
  ·
   simp only[c,if_false]
   exact h.one i
theorem WsV.set {w:World}{n:Nat}{s:WS}{v:Value}{ub:Nat}{vs:Array Value}(h:WsV w n s v) (hb:Box w ub 132 vs) (q:Nat) (x:Value):WsV (w.setCell (ad ub q) x) n s v:=by
 cases s with
 |used g B sh=>
  obtain⟨b,cap,cur,h1,h2,h3⟩:=h
  have hne:b≠ub:=h2.ne hb (by decide)
  refine⟨b,cap,cur,h1,h2.other hne _,fun h0=>?_⟩
  obtain⟨b',off,e,k1,k2,k3⟩:=h3 h0
  refine⟨b',off,e,k1,Nat.lt_of_lt_of_le k2 (by simp[World.setCell]),fun i hi j hj=>?_⟩
  simp only[Option.some.injEq,Addr.mk.injEq,and_true] at e
  exact(World.cell?_of_block (a:=(ad b' (off+i*1+j))) (Below.heap_setCell w (ad ub q) x b' (by rw[<-e.1];exact hne))).trans (k3 i hi j hj)
 |idle=>exact h
 |set sh=>exact h
 |clear=>exact h
 |taking t=>exact h
def DsR (p:Pl) (wb yb bb:Nat) (oa:Option Addr) (no oc:Nat) (pa:Option Addr) (np pc:Nat) (S:Nat->WS) (w:World) (e:Ending) (w':World):Prop:=
 ∃(ua:Option Addr) (uc:Nat) (vv:Nat->Value),e=.returned (.agg #[.int .i64 p.sec,.slice (some (ad wb 0)) p.nw p.nw,.slice (some (ad yb 0)) p.ny p.ny,.slice (some (ad bb 0)) p.nb p.nb,.int .i64 p.hold,.slice oa no oc,.slice pa np pc,.slice ua p.ny uc])/\WlOwn w.heap.size w' ua p.ny uc (fun i=>(p.Y i).ns) S vv/\Below w.heap.size w w'
set_option maxRecDepth 100000 in
set_option maxHeartbeats 8000000 in
theorem settle58 (p:Pl) (wb yb bb:Nat) (lo rr:Nat->Nat) (oa:Option Addr) (no oc:Nat) (pa:Option Addr) (np pc:Nat) (ia:Option Addr) (ic:Nat) (O:Nat->Bool) (P:Nat->Nat->Int) (S:Nat->WS) (v:Nat->Value) (M:Nat) (w:World) (hs:p.small) (hP:PlOwn 0 w p wb yb bb lo rr) (ho:VsAt 1 0 w oa no (boolF O)) (hp:VsAt 2 0 w pa np (intF P)) (hin:∀k,k<p.ny->(p.Y k).In no np/\1<=(p.Y k).ns/\∀g B sh,S k=.used g B sh->g<=(p.Y k).ns) (hno:no<=1048576) (hnp:np<=1048576) (h:WlOwn M w ia p.ny ic (fun i=>(p.Y i).ns) S v):
  Calls Tryz.prog 82 #[.agg #[.int .i64 p.sec,.slice (some (ad wb 0)) p.nw p.nw,.slice (some (ad yb 0)) p.ny p.ny,.slice (some (ad bb 0)) p.nb p.nb,.int .i64 p.hold,.slice oa no oc,.slice pa np pc,.slice ia p.ny ic]] w fun e w'=>DsR p wb yb bb oa no oc pa np pc (fun i=>WS.settle ⟨(p.Y i).ns,fun k=>O ((p.Y i).S k).toNat,prvB (p.Y i) O P⟩ (S i)) w e w':=by
 have H:Hid (PlOwn 0 w p wb yb bb lo rr/\VsAt 1 0 w oa no (boolF O)/\VsAt 2 0 w pa np (intF P)/\p.small/\WlOwn M w ia p.ny ic (fun i=>(p.Y i).ns) S v):=⟨hP,ho,hp,hs,h⟩
 have HIN:Hid (∀k,k<p.ny->(p.Y k).In no np/\1<=(p.Y k).ns/\∀g B sh,S k=.used g B sh->g<=(p.Y k).ns):=hin
 have hny:p.ny<=1048576:=hs.2.1
 have S0:Hid (Below w.heap.size w ((w.alloc (.cells (vDk p wb yb bb oa no oc pa np pc ia ic) 84)).alloc (.cells z8v 84))/\Box ((w.alloc (.cells (vDk p wb yb bb oa no oc pa np pc ia ic) 84)).alloc (.cells z8v 84)) w.heap.size 84 (vDk p wb yb bb oa no oc pa np pc ia ic)/\Box ((w.alloc (.cells (vDk p wb yb bb oa no oc pa np pc ia ic) 84)).alloc (.cells z8v 84)) (w.heap.size+1) 84 z8v):=⟨bel2 _ _ _,(Box.new _ _ _).alloc _,by have :=Box.new (w.alloc (.cells (vDk p wb yb bb oa no oc pa np pc ia ic) 84)) 84 z8v;simpa using this⟩
 have hsz:((w.alloc (.cells (vDk p wb yb bb oa no oc pa np pc ia ic) 84)).alloc (.cells z8v 84)).heap.size=w.heap.size+1+1:=by simp
 clear hP ho hp hs h hin
 go_enter Tryz.func82,Tryz.ntmps82
 go_wp2_with fail
 generalize ((w.alloc (.cells (vDk p wb yb bb oa no oc pa np pc ia ic) 84)).alloc (.cells z8v 84))=W at *
 refine(clone100 M ia p.ny ic v W hny H.out.2.2.2.2.one (H.out.2.2.2.2.own.mono nr S0.out.1 nr)).mono ?_
 rintro e w1 ⟨u,rfl,hu,hb1⟩
 obtain⟨ua,uc,rfl⟩:=hu.val
 rw[hsz] at hu
 have S1:Hid (Below w.heap.size w w1/\Box w1 w.heap.size 84 (vDk p wb yb bb oa no oc pa np pc ia ic)/\Box w1 (w.heap.size+1) 84 z8v/\WlOwn (w.heap.size+1+1) w1 ua p.ny uc (fun i=>(p.Y i).ns) (fun i=>if i<0 then WS.settle ⟨(p.Y i).ns,fun k=>O ((p.Y i).S k).toNat,prvB (p.Y i) O P⟩ (S i) else S i) v):=⟨S0.out.1.trans (hb1.mono S0.out.1.size),S0.out.2.1.mono hb1 nr,S0.out.2.2.mono hb1 nr,hu,fun i hi=>by simpa using (H.out.2.2.2.2.ws i hi).mono (S0.out.1.trans (hb1.mono S0.out.1.size)) nr,H.out.2.2.2.2.one⟩
 clear S0 hu hb1
 go_wp2_with fail
 go_loopw [11] (fun i wr=>∃(q:Nat) (vv:Nat->Value),q<=p.ny/\i=.int .i64 (q:Int)/\Hid (Below w.heap.size w wr/\Box wr w.heap.size 84 (vDk p wb yb bb oa no oc pa np pc ia ic)/\Box wr (w.heap.size+1) 84 z8v/\WlOwn (w.heap.size+1+1) wr ua p.ny uc (fun i=>(p.Y i).ns) (fun i=>if i<q then WS.settle ⟨(p.Y i).ns,fun k=>O ((p.Y i).S k).toNat,prvB (p.Y i) O P⟩ (S i) else S i) vv)) (fun i _=>p.ny-(intOf i).toNat)
 case atStart=>exact⟨0,v,Nat.zero_le _,rfl,S1⟩
 case round=>
  clear S1
  obtain⟨q,vv,hq,rfl,T⟩:=hrel
  by_cases hlt:q<p.ny
  ·
   obtain⟨ub,rfl,hub,_⟩:=T.out.2.2.2.own.addr (by omega)
   have hwq:WsV wr (p.Y q).ns (S q) (vv q):=by
    have :=T.out.2.2.2.ws q hlt
    simpa using this
   obtain⟨TT,x,F,HTF,hvq,hna,hme,hC⟩:=settle_any (oa:=oa) (no:=no) (oc:=oc) (O:=O) (pa:=pa) (np:=np) (pc:=pc) (P:=P) (HIN.out q hlt).2.1 (HIN.out q hlt).2.2 hwq
   have HC:Hid (∀(b1 b2 b3 b4 b5:Nat) (W:World),WsV W (p.Y q).ns (S q) (vv q)->VwIn W (p.Y q) b1 b2 b3 b4 b5 oa no O pa np P->Calls Tryz.prog F #[x,.agg #[.slice (some (ad b1 0)) (p.Y q).ns (p.Y q).ns,.slice (some (ad b2 0)) (p.Y q).nl (p.Y q).nl,.slice (some (ad b3 0)) (p.Y q).nf (p.Y q).nf,.slice (some (ad b4 0)) (p.Y q).no (p.Y q).no,.slice (some (ad b5 0)) (p.Y q).nm (p.Y q).nm,.slice oa no oc,.slice pa np pc]] W fun e w'=>SlR W (p.Y q).ns (WS.settle ⟨(p.Y q).ns,fun k=>O ((p.Y q).S k).toNat,prvB (p.Y q) O P⟩ (S q)) e w'):=hC
   clear hC
   have c0:wr.cell? (ad ub q)=some (.iface TT x):=by
    have :=T.out.2.2.2.own.cell (i:=q) (j:=0) hlt (by omega)
    rw[hvq] at this
    simpa using this
   have HWS:Hid (WsV wr (p.Y q).ns (S q) (vv q)):=hwq
   clear hwq
   have hq0:(0:Int)<=(q:Int):=by omega
   have hqn:(q:Int)<(p.ny:Int):=by omega
   have x0:wr.cell? (ad w.heap.size 0)=some (.int .i64 p.sec):=T.out.2.1.cell 0;have x1:wr.cell? (ad w.heap.size 1)=some (.slice (some (ad wb 0)) p.nw p.nw):=T.out.2.1.cell 1;have x2:wr.cell? (ad w.heap.size 2)=some (.slice (some (ad yb 0)) p.ny p.ny):=T.out.2.1.cell 2;have x3:wr.cell? (ad w.heap.size 3)=some (.slice (some (ad bb 0)) p.nb p.nb):=T.out.2.1.cell 3;have x4:wr.cell? (ad w.heap.size 4)=some (.int .i64 p.hold):=T.out.2.1.cell 4;have x5:wr.cell? (ad w.heap.size 5)=some (.slice oa no oc):=T.out.2.1.cell 5;have x6:wr.cell? (ad w.heap.size 6)=some (.slice pa np pc):=T.out.2.1.cell 6;have x7:wr.cell? (ad w.heap.size 7)=some (.slice ia p.ny ic):=T.out.2.1.cell 7
   have f0:wr.frozen? (ad ub q)=false:=T.out.2.2.2.own.free q
   have HTF2:Hid ((TT=161/\F=194)\/(TT=163/\F=197)\/(TT=164/\F=204)\/(TT=166/\F=207)\/(TT=169/\F=200)):=HTF
   clear HTF
   go_wp2_with fail
   have MD:Hid (Below w.heap.size w wr.drew):=T.out.1.drew
   have zn:ub<wr.heap.size:=by obtain⟨cur,hc⟩:=T.out.2.2.2.own.box (g:=ub) rfl;exact hc.lt
   have HT2:Hid (∀w2,Below wr.drew.heap.size wr.drew w2->Below w.heap.size w w2/\Box w2 w.heap.size 84 (vDk p wb yb bb oa no oc pa np pc ia ic)/\Box w2 (w.heap.size+1) 84 z8v/\WlOwn (w.heap.size+1+1) w2 (some (ad ub 0)) p.ny uc (fun i=>(p.Y i).ns) (fun i=>if i<q then WS.settle ⟨(p.Y i).ns,fun k=>O ((p.Y i).S k).toNat,prvB (p.Y i) O P⟩ (S i) else S i) vv/\WsV w2 (p.Y q).ns (S q) (vv q)):=fun w2 hb2=>⟨MD.out.trans (hb2.mono MD.out.size),T.out.2.1.drew.mono hb2 nr,T.out.2.2.1.drew.mono hb2 nr,(T.out.2.2.2.mono nr (Below.refl wr.heap.size wr).drew nr).mono nr hb2 nr,(HWS.out.mono (Below.refl wr.heap.size wr).drew nr).mono hb2 nr⟩
   have HT3:Hid (∀w2 w3,(Below w.heap.size w w2/\Box w2 w.heap.size 84 (vDk p wb yb bb oa no oc pa np pc ia ic)/\Box w2 (w.heap.size+1) 84 z8v/\WlOwn (w.heap.size+1+1) w2 (some (ad ub 0)) p.ny uc (fun i=>(p.Y i).ns) (fun i=>if i<q then WS.settle ⟨(p.Y i).ns,fun k=>O ((p.Y i).S k).toNat,prvB (p.Y i) O P⟩ (S i) else S i) vv/\WsV w2 (p.Y q).ns (S q) (vv q))->Below w2.heap.size w2 w3->Below w.heap.size w w3/\Box w3 w.heap.size 84 (vDk p wb yb bb oa no oc pa np pc ia ic)/\Box w3 (w.heap.size+1) 84 z8v/\WlOwn (w.heap.size+1+1) w3 (some (ad ub 0)) p.ny uc (fun i=>(p.Y i).ns) (fun i=>if i<q then WS.settle ⟨(p.Y i).ns,fun k=>O ((p.Y i).S k).toNat,prvB (p.Y i) O P⟩ (S i) else S i) vv):=fun w2 w3 h hb3=>⟨h.1.trans (hb3.mono h.1.size),h.2.1.mono hb3 nr,h.2.2.1.mono hb3 nr,h.2.2.2.1.mono nr hb3 nr⟩
   have HK:Hid (∀w3,WlOwn (w.heap.size+1+1) w3 (some (ad ub 0)) p.ny uc (fun i=>(p.Y i).ns) (fun i=>if i<q then WS.settle ⟨(p.Y i).ns,fun k=>O ((p.Y i).S k).toNat,prvB (p.Y i) O P⟩ (S i) else S i) vv->w3.cell? (ad ub q)=some (.iface TT x)/\w3.frozen? (ad ub q)=false):=fun w3 h=>by
    have h1:=h.own.cell (i:=q) (j:=0) hlt (by omega)
    rw[hvq] at h1
    exact⟨by simpa using h1,h.own.free q⟩
   have HBX:Hid (∀(w3:World) (z:Value),Box w3 w.heap.size 84 (vDk p wb yb bb oa no oc pa np pc ia ic)->Box (w3.setCell (ad ub q) z) w.heap.size 84 (vDk p wb yb bb oa no oc pa np pc ia ic)):=fun w3 z h=>h.other (by show w.heap.size≠ub;omega) _
   have HVW:Hid (∀W,W=wr.drew->Calls Tryz.prog 68 #[.agg #[.int .i64 p.sec,.slice (some (ad wb 0)) p.nw p.nw,.slice (some (ad yb 0)) p.ny p.ny,.slice (some (ad bb 0)) p.nb p.nb,.int .i64 p.hold,.slice oa no oc,.slice pa np pc,.slice ia p.ny ic],.int .i64 (q:Int)] W fun e w'=>VwR W (p.Y q) oa no oc O pa np pc P e w'):=fun W e=>by
    subst e
    exact view69 p wb yb bb lo rr oa no oc pa np pc ia ic O P q _ hlt H.out.2.2.2.1 (H.out.1.mono nr MD.out nr) (H.out.2.1.mono nr MD.out nr) (H.out.2.2.1.mono nr MD.out nr) (HIN.out q hlt).1 hno hnp
   rcases HTF2.out with⟨rfl,rfl⟩|⟨rfl,rfl⟩|⟨rfl,rfl⟩|⟨rfl,rfl⟩|⟨rfl,rfl⟩
   all_goals clear HTF2
   all_goals go_region_held3 (fun wx:World=>wx.cell? (ad w.heap.size 0)=some (.int .i64 p.sec)/\wx.cell? (ad w.heap.size 1)=some (.slice (some (ad wb 0)) p.nw p.nw)/\wx.cell? (ad w.heap.size 2)=some (.slice (some (ad yb 0)) p.ny p.ny)/\wx.cell? (ad w.heap.size 3)=some (.slice (some (ad bb 0)) p.nb p.nb)/\wx.cell? (ad w.heap.size 4)=some (.int .i64 p.hold)/\wx.cell? (ad w.heap.size 5)=some (.slice oa no oc)/\wx.cell? (ad w.heap.size 6)=some (.slice pa np pc)/\wx.cell? (ad w.heap.size 7)=some (.slice ia p.ny ic)) (go_keep) (first
    |(go_at_call 68;refine(HVW.out _ rfl).mono ?_;rintro e w2 ⟨b1,b2,b3,b4,b5,rfl,hV,hb2⟩;have T2:=HT2.out _ hb2;have n0:w2.cell? (ad w.heap.size 0)=some (.int .i64 p.sec):=T2.2.1.cell 0;have n1:w2.cell? (ad w.heap.size 1)=some (.slice (some (ad wb 0)) p.nw p.nw):=T2.2.1.cell 1;have n2:w2.cell? (ad w.heap.size 2)=some (.slice (some (ad yb 0)) p.ny p.ny):=T2.2.1.cell 2;have n3:w2.cell? (ad w.heap.size 3)=some (.slice (some (ad bb 0)) p.nb p.nb):=T2.2.1.cell 3;have n4:w2.cell? (ad w.heap.size 4)=some (.int .i64 p.hold):=T2.2.1.cell 4;have n5:w2.cell? (ad w.heap.size 5)=some (.slice oa no oc):=T2.2.1.cell 5;have n6:w2.cell? (ad w.heap.size 6)=some (.slice pa np pc):=T2.2.1.cell 6;have n7:w2.cell? (ad w.heap.size 7)=some (.slice ia p.ny ic):=T2.2.1.cell 7)
    |(refine(HC.out b1 b2 b3 b4 b5 _ T2.2.2.2.2 hV).mono ?_;rintro e w3 ⟨u3,rfl,hu3,hb3⟩;have T3:=HT3.out _ _ T2 hb3;obtain⟨t3,z3,rfl⟩:=hu3.one;have m0:w3.cell? (ad w.heap.size 0)=some (.int .i64 p.sec):=T3.2.1.cell 0;have m1:w3.cell? (ad w.heap.size 1)=some (.slice (some (ad wb 0)) p.nw p.nw):=T3.2.1.cell 1;have m2:w3.cell? (ad w.heap.size 2)=some (.slice (some (ad yb 0)) p.ny p.ny):=T3.2.1.cell 2;have m3:w3.cell? (ad w.heap.size 3)=some (.slice (some (ad bb 0)) p.nb p.nb):=T3.2.1.cell 3;have m4:w3.cell? (ad w.heap.size 4)=some (.int .i64 p.hold):=T3.2.1.cell 4;have m5:w3.cell? (ad w.heap.size 5)=some (.slice oa no oc):=T3.2.1.cell 5;have m6:w3.cell? (ad w.heap.size 6)=some (.slice pa np pc):=T3.2.1.cell 6;have m7:w3.cell? (ad w.heap.size 7)=some (.slice ia p.ny ic):=T3.2.1.cell 7;have k2:=(HK.out _ T3.2.2.2).1;have k3:=(HK.out _ T3.2.2.2).2;have l0:(w3.setCell (ad ub q) (.iface t3 z3)).cell? (ad w.heap.size 0)=some (.int .i64 p.sec):=(HBX.out _ _ T3.2.1).cell 0;have l1:(w3.setCell (ad ub q) (.iface t3 z3)).cell? (ad w.heap.size 1)=some (.slice (some (ad wb 0)) p.nw p.nw):=(HBX.out _ _ T3.2.1).cell 1;have l2:(w3.setCell (ad ub q) (.iface t3 z3)).cell? (ad w.heap.size 2)=some (.slice (some (ad yb 0)) p.ny p.ny):=(HBX.out _ _ T3.2.1).cell 2;have l3:(w3.setCell (ad ub q) (.iface t3 z3)).cell? (ad w.heap.size 3)=some (.slice (some (ad bb 0)) p.nb p.nb):=(HBX.out _ _ T3.2.1).cell 3;have l4:(w3.setCell (ad ub q) (.iface t3 z3)).cell? (ad w.heap.size 4)=some (.int .i64 p.hold):=(HBX.out _ _ T3.2.1).cell 4;have l5:(w3.setCell (ad ub q) (.iface t3 z3)).cell? (ad w.heap.size 5)=some (.slice oa no oc):=(HBX.out _ _ T3.2.1).cell 5;have l6:(w3.setCell (ad ub q) (.iface t3 z3)).cell? (ad w.heap.size 6)=some (.slice pa np pc):=(HBX.out _ _ T3.2.1).cell 6;have l7:(w3.setCell (ad ub q) (.iface t3 z3)).cell? (ad w.heap.size 7)=some (.slice ia p.ny ic):=(HBX.out _ _ T3.2.1).cell 7))
   all_goals
    have T5:Hid (Below w.heap.size w (w3.setCell (ad ub q) (.iface t3 z3))/\Box (w3.setCell (ad ub q) (.iface t3 z3)) w.heap.size 84 (vDk p wb yb bb oa no oc pa np pc ia ic)/\Box (w3.setCell (ad ub q) (.iface t3 z3)) (w.heap.size+1) 84 z8v/\WlOwn (w.heap.size+1+1) (w3.setCell (ad ub q) (.iface t3 z3)) (some (ad ub 0)) p.ny uc (fun i=>(p.Y i).ns) (fun i=>if i<q+1 then WS.settle ⟨(p.Y i).ns,fun k=>O ((p.Y i).S k).toNat,prvB (p.Y i) O P⟩ (S i) else S i) (fun i=>if i=q then .iface t3 z3 else vv i)):=by
     obtain⟨cur,hcur⟩:=T3.2.2.2.own.box (g:=ub) rfl
     refine⟨T3.1.setCell (by show w.heap.size<=ub;omega) _,HBX.out _ _ T3.2.1,T3.2.2.1.other (by show w.heap.size+1≠ub;omega) _,updL_step T3.2.2.2 hlt ⟨t3,z3,rfl⟩ ?_ fun i hi hne=>⟨?_,?_⟩⟩
     ·
      have :=hu3.set hcur q (.iface t3 z3)
      simpa using this
     ·
      by_cases c:i<q
      ·
       simp[c,show i<q+1 by omega]
      ·
       simp[c,show¬i<q+1 by omega]
     ·
      exact(T3.2.2.2.ws i hi).set hcur q (.iface t3 z3)
    clear T3 T2 n0 m0 l0 x0 n1 m1 l1 x1 n2 m2 l2 x2 n3 m3 l3 x3 n4 m4 l4 x4 n5 m5 l5 x5 n6 m6 l6 x6 n7 m7 l7 x7 k2 k3
    go_wp2_with fail
    go_roundw
    case rel=>exact⟨q+1,_,by omega,by go_num,T5⟩
    case measure=>simp[intOf];omega
  ·
   obtain rfl:q=p.ny:=by omega
   have HF:Hid (Below w.heap.size w (((((((((wr.setCell (ad w.heap.size 7) (.slice ua p.ny uc)).setCell (ad (w.heap.size+1) 0) (.int .i64 p.sec)).setCell (ad (w.heap.size+1) 1) (.slice (some (ad wb 0)) p.nw p.nw)).setCell (ad (w.heap.size+1) 2) (.slice (some (ad yb 0)) p.ny p.ny)).setCell (ad (w.heap.size+1) 3) (.slice (some (ad bb 0)) p.nb p.nb)).setCell (ad (w.heap.size+1) 4) (.int .i64 p.hold)).setCell (ad (w.heap.size+1) 5) (.slice oa no oc)).setCell (ad (w.heap.size+1) 6) (.slice pa np pc)).setCell (ad (w.heap.size+1) 7) (.slice ua p.ny uc))/\Box (((((((((wr.setCell (ad w.heap.size 7) (.slice ua p.ny uc)).setCell (ad (w.heap.size+1) 0) (.int .i64 p.sec)).setCell (ad (w.heap.size+1) 1) (.slice (some (ad wb 0)) p.nw p.nw)).setCell (ad (w.heap.size+1) 2) (.slice (some (ad yb 0)) p.ny p.ny)).setCell (ad (w.heap.size+1) 3) (.slice (some (ad bb 0)) p.nb p.nb)).setCell (ad (w.heap.size+1) 4) (.int .i64 p.hold)).setCell (ad (w.heap.size+1) 5) (.slice oa no oc)).setCell (ad (w.heap.size+1) 6) (.slice pa np pc)).setCell (ad (w.heap.size+1) 7) (.slice ua p.ny uc)) (w.heap.size+1) 84 (vDk p wb yb bb oa no oc pa np pc ua uc)/\WlOwn (w.heap.size+1+1) (((((((((wr.setCell (ad w.heap.size 7) (.slice ua p.ny uc)).setCell (ad (w.heap.size+1) 0) (.int .i64 p.sec)).setCell (ad (w.heap.size+1) 1) (.slice (some (ad wb 0)) p.nw p.nw)).setCell (ad (w.heap.size+1) 2) (.slice (some (ad yb 0)) p.ny p.ny)).setCell (ad (w.heap.size+1) 3) (.slice (some (ad bb 0)) p.nb p.nb)).setCell (ad (w.heap.size+1) 4) (.int .i64 p.hold)).setCell (ad (w.heap.size+1) 5) (.slice oa no oc)).setCell (ad (w.heap.size+1) 6) (.slice pa np pc)).setCell (ad (w.heap.size+1) 7) (.slice ua p.ny uc)) ua p.ny uc (fun i=>(p.Y i).ns) (fun i=>WS.settle ⟨(p.Y i).ns,fun k=>O ((p.Y i).S k).toNat,prvB (p.Y i) O P⟩ (S i)) vv):=by
    have hB1:=T.out.2.1.set 7 (.slice ua p.ny uc)
    have hB2:=T.out.2.2.1.other (p:=(ad w.heap.size 7)) (by show w.heap.size+1≠w.heap.size;omega) (.slice ua p.ny uc)
    have hk:∀g,g≠w.heap.size->g≠w.heap.size+1->(((((((((wr.setCell (ad w.heap.size 7) (.slice ua p.ny uc)).setCell (ad (w.heap.size+1) 0) (.int .i64 p.sec)).setCell (ad (w.heap.size+1) 1) (.slice (some (ad wb 0)) p.nw p.nw)).setCell (ad (w.heap.size+1) 2) (.slice (some (ad yb 0)) p.ny p.ny)).setCell (ad (w.heap.size+1) 3) (.slice (some (ad bb 0)) p.nb p.nb)).setCell (ad (w.heap.size+1) 4) (.int .i64 p.hold)).setCell (ad (w.heap.size+1) 5) (.slice oa no oc)).setCell (ad (w.heap.size+1) 6) (.slice pa np pc)).setCell (ad (w.heap.size+1) 7) (.slice ua p.ny uc)).heap[g]?=wr.heap[g]?:=fun g h1 h2=>(heap_set8 h2).trans (Below.heap_setCell wr (ad w.heap.size 7) _ g h1)
    refine⟨below_set8 (T.out.1.setCell nr _) (by omega),box_set8 hB2,?_,fun i hi=>?_,T.out.2.2.2.one⟩
    ·
     exact T.out.2.2.2.own.by_ fun b cur hb=>hk b (hb.ne T.out.2.1 (by decide)) (hb.ne T.out.2.2.1 (by decide))
    ·
     have :=T.out.2.2.2.ws i hi
     simp only[hi,if_true] at this
     exact this.by_ fun b cur hb=>hk b (hb.ne T.out.2.1 (by decide)) (hb.ne T.out.2.2.1 (by decide))
   have x0:wr.cell? (ad w.heap.size 0)=some (.int .i64 p.sec):=T.out.2.1.cell 0;have x1:wr.cell? (ad w.heap.size 1)=some (.slice (some (ad wb 0)) p.nw p.nw):=T.out.2.1.cell 1;have x2:wr.cell? (ad w.heap.size 2)=some (.slice (some (ad yb 0)) p.ny p.ny):=T.out.2.1.cell 2;have x3:wr.cell? (ad w.heap.size 3)=some (.slice (some (ad bb 0)) p.nb p.nb):=T.out.2.1.cell 3;have x4:wr.cell? (ad w.heap.size 4)=some (.int .i64 p.hold):=T.out.2.1.cell 4;have x5:wr.cell? (ad w.heap.size 5)=some (.slice oa no oc):=T.out.2.1.cell 5;have x6:wr.cell? (ad w.heap.size 6)=some (.slice pa np pc):=T.out.2.1.cell 6;have x7:wr.cell? (ad w.heap.size 7)=some (.slice ia p.ny ic):=T.out.2.1.cell 7
   have z0:wr.cell? (ad (w.heap.size+1) 0)=some (.int .i64 0):=T.out.2.2.1.cell 0;have y0:=T.out.2.2.1.free 0;have z1:wr.cell? (ad (w.heap.size+1) 1)=some (.slice none 0 0):=T.out.2.2.1.cell 1;have y1:=T.out.2.2.1.free 1;have z2:wr.cell? (ad (w.heap.size+1) 2)=some (.slice none 0 0):=T.out.2.2.1.cell 2;have y2:=T.out.2.2.1.free 2;have z3:wr.cell? (ad (w.heap.size+1) 3)=some (.slice none 0 0):=T.out.2.2.1.cell 3;have y3:=T.out.2.2.1.free 3;have z4:wr.cell? (ad (w.heap.size+1) 4)=some (.int .i64 0):=T.out.2.2.1.cell 4;have y4:=T.out.2.2.1.free 4;have z5:wr.cell? (ad (w.heap.size+1) 5)=some (.slice none 0 0):=T.out.2.2.1.cell 5;have y5:=T.out.2.2.1.free 5;have z6:wr.cell? (ad (w.heap.size+1) 6)=some (.slice none 0 0):=T.out.2.2.1.cell 6;have y6:=T.out.2.2.1.free 6;have z7:wr.cell? (ad (w.heap.size+1) 7)=some (.slice none 0 0):=T.out.2.2.1.cell 7;have y7:=T.out.2.2.1.free 7
   have f7:=T.out.2.1.free 7
   have HR:Hid (DsR p wb yb bb oa no oc pa np pc (fun i=>WS.settle ⟨(p.Y i).ns,fun k=>O ((p.Y i).S k).toNat,prvB (p.Y i) O P⟩ (S i)) w (.returned (.agg #[.int .i64 p.sec,.slice (some (ad wb 0)) p.nw p.nw,.slice (some (ad yb 0)) p.ny p.ny,.slice (some (ad bb 0)) p.nb p.nb,.int .i64 p.hold,.slice oa no oc,.slice pa np pc,.slice ua p.ny uc])) (((((((((wr.setCell (ad w.heap.size 7) (.slice ua p.ny uc)).setCell (ad (w.heap.size+1) 0) (.int .i64 p.sec)).setCell (ad (w.heap.size+1) 1) (.slice (some (ad wb 0)) p.nw p.nw)).setCell (ad (w.heap.size+1) 2) (.slice (some (ad yb 0)) p.ny p.ny)).setCell (ad (w.heap.size+1) 3) (.slice (some (ad bb 0)) p.nb p.nb)).setCell (ad (w.heap.size+1) 4) (.int .i64 p.hold)).setCell (ad (w.heap.size+1) 5) (.slice oa no oc)).setCell (ad (w.heap.size+1) 6) (.slice pa np pc)).setCell (ad (w.heap.size+1) 7) (.slice ua p.ny uc))):=⟨ua,uc,vv,rfl,⟨HF.out.2.2.own.keep (by omega) fun _ _=>rfl,HF.out.2.2.ws,HF.out.2.2.one⟩,HF.out.1⟩
   have d0:(((((((((wr.setCell (ad w.heap.size 7) (.slice ua p.ny uc)).setCell (ad (w.heap.size+1) 0) (.int .i64 p.sec)).setCell (ad (w.heap.size+1) 1) (.slice (some (ad wb 0)) p.nw p.nw)).setCell (ad (w.heap.size+1) 2) (.slice (some (ad yb 0)) p.ny p.ny)).setCell (ad (w.heap.size+1) 3) (.slice (some (ad bb 0)) p.nb p.nb)).setCell (ad (w.heap.size+1) 4) (.int .i64 p.hold)).setCell (ad (w.heap.size+1) 5) (.slice oa no oc)).setCell (ad (w.heap.size+1) 6) (.slice pa np pc)).setCell (ad (w.heap.size+1) 7) (.slice ua p.ny uc)).cell? (ad (w.heap.size+1) 0)=some (.int .i64 p.sec):=HF.out.2.1.cell 0;have d1:(((((((((wr.setCell (ad w.heap.size 7) (.slice ua p.ny uc)).setCell (ad (w.heap.size+1) 0) (.int .i64 p.sec)).setCell (ad (w.heap.size+1) 1) (.slice (some (ad wb 0)) p.nw p.nw)).setCell (ad (w.heap.size+1) 2) (.slice (some (ad yb 0)) p.ny p.ny)).setCell (ad (w.heap.size+1) 3) (.slice (some (ad bb 0)) p.nb p.nb)).setCell (ad (w.heap.size+1) 4) (.int .i64 p.hold)).setCell (ad (w.heap.size+1) 5) (.slice oa no oc)).setCell (ad (w.heap.size+1) 6) (.slice pa np pc)).setCell (ad (w.heap.size+1) 7) (.slice ua p.ny uc)).cell? (ad (w.heap.size+1) 1)=some (.slice (some (ad wb 0)) p.nw p.nw):=HF.out.2.1.cell 1;have d2:(((((((((wr.setCell (ad w.heap.size 7) (.slice ua p.ny uc)).setCell (ad (w.heap.size+1) 0) (.int .i64 p.sec)).setCell (ad (w.heap.size+1) 1) (.slice (some (ad wb 0)) p.nw p.nw)).setCell (ad (w.heap.size+1) 2) (.slice (some (ad yb 0)) p.ny p.ny)).setCell (ad (w.heap.size+1) 3) (.slice (some (ad bb 0)) p.nb p.nb)).setCell (ad (w.heap.size+1) 4) (.int .i64 p.hold)).setCell (ad (w.heap.size+1) 5) (.slice oa no oc)).setCell (ad (w.heap.size+1) 6) (.slice pa np pc)).setCell (ad (w.heap.size+1) 7) (.slice ua p.ny uc)).cell? (ad (w.heap.size+1) 2)=some (.slice (some (ad yb 0)) p.ny p.ny):=HF.out.2.1.cell 2;have d3:(((((((((wr.setCell (ad w.heap.size 7) (.slice ua p.ny uc)).setCell (ad (w.heap.size+1) 0) (.int .i64 p.sec)).setCell (ad (w.heap.size+1) 1) (.slice (some (ad wb 0)) p.nw p.nw)).setCell (ad (w.heap.size+1) 2) (.slice (some (ad yb 0)) p.ny p.ny)).setCell (ad (w.heap.size+1) 3) (.slice (some (ad bb 0)) p.nb p.nb)).setCell (ad (w.heap.size+1) 4) (.int .i64 p.hold)).setCell (ad (w.heap.size+1) 5) (.slice oa no oc)).setCell (ad (w.heap.size+1) 6) (.slice pa np pc)).setCell (ad (w.heap.size+1) 7) (.slice ua p.ny uc)).cell? (ad (w.heap.size+1) 3)=some (.slice (some (ad bb 0)) p.nb p.nb):=HF.out.2.1.cell 3;have d4:(((((((((wr.setCell (ad w.heap.size 7) (.slice ua p.ny uc)).setCell (ad (w.heap.size+1) 0) (.int .i64 p.sec)).setCell (ad (w.heap.size+1) 1) (.slice (some (ad wb 0)) p.nw p.nw)).setCell (ad (w.heap.size+1) 2) (.slice (some (ad yb 0)) p.ny p.ny)).setCell (ad (w.heap.size+1) 3) (.slice (some (ad bb 0)) p.nb p.nb)).setCell (ad (w.heap.size+1) 4) (.int .i64 p.hold)).setCell (ad (w.heap.size+1) 5) (.slice oa no oc)).setCell (ad (w.heap.size+1) 6) (.slice pa np pc)).setCell (ad (w.heap.size+1) 7) (.slice ua p.ny uc)).cell? (ad (w.heap.size+1) 4)=some (.int .i64 p.hold):=HF.out.2.1.cell 4;have d5:(((((((((wr.setCell (ad w.heap.size 7) (.slice ua p.ny uc)).setCell (ad (w.heap.size+1) 0) (.int .i64 p.sec)).setCell (ad (w.heap.size+1) 1) (.slice (some (ad wb 0)) p.nw p.nw)).setCell (ad (w.heap.size+1) 2) (.slice (some (ad yb 0)) p.ny p.ny)).setCell (ad (w.heap.size+1) 3) (.slice (some (ad bb 0)) p.nb p.nb)).setCell (ad (w.heap.size+1) 4) (.int .i64 p.hold)).setCell (ad (w.heap.size+1) 5) (.slice oa no oc)).setCell (ad (w.heap.size+1) 6) (.slice pa np pc)).setCell (ad (w.heap.size+1) 7) (.slice ua p.ny uc)).cell? (ad (w.heap.size+1) 5)=some (.slice oa no oc):=HF.out.2.1.cell 5;have d6:(((((((((wr.setCell (ad w.heap.size 7) (.slice ua p.ny uc)).setCell (ad (w.heap.size+1) 0) (.int .i64 p.sec)).setCell (ad (w.heap.size+1) 1) (.slice (some (ad wb 0)) p.nw p.nw)).setCell (ad (w.heap.size+1) 2) (.slice (some (ad yb 0)) p.ny p.ny)).setCell (ad (w.heap.size+1) 3) (.slice (some (ad bb 0)) p.nb p.nb)).setCell (ad (w.heap.size+1) 4) (.int .i64 p.hold)).setCell (ad (w.heap.size+1) 5) (.slice oa no oc)).setCell (ad (w.heap.size+1) 6) (.slice pa np pc)).setCell (ad (w.heap.size+1) 7) (.slice ua p.ny uc)).cell? (ad (w.heap.size+1) 6)=some (.slice pa np pc):=HF.out.2.1.cell 6;have d7:(((((((((wr.setCell (ad w.heap.size 7) (.slice ua p.ny uc)).setCell (ad (w.heap.size+1) 0) (.int .i64 p.sec)).setCell (ad (w.heap.size+1) 1) (.slice (some (ad wb 0)) p.nw p.nw)).setCell (ad (w.heap.size+1) 2) (.slice (some (ad yb 0)) p.ny p.ny)).setCell (ad (w.heap.size+1) 3) (.slice (some (ad bb 0)) p.nb p.nb)).setCell (ad (w.heap.size+1) 4) (.int .i64 p.hold)).setCell (ad (w.heap.size+1) 5) (.slice oa no oc)).setCell (ad (w.heap.size+1) 6) (.slice pa np pc)).setCell (ad (w.heap.size+1) 7) (.slice ua p.ny uc)).cell? (ad (w.heap.size+1) 7)=some (.slice ua p.ny uc):=HF.out.2.1.cell 7
   go_wp2_with fail
   exact bodyPost_ret (v:=.agg #[.int .i64 p.sec,.slice (some (ad wb 0)) p.nw p.nw,.slice (some (ad yb 0)) p.ny p.ny,.slice (some (ad bb 0)) p.nb p.nb,.int .i64 p.hold,.slice oa no oc,.slice pa np pc,.slice ua p.ny uc]) (by simp only[results,Tryz.results82];generalize (((((((((wr.setCell (ad w.heap.size 7) (.slice ua p.ny uc)).setCell (ad (w.heap.size+1) 0) (.int .i64 p.sec)).setCell (ad (w.heap.size+1) 1) (.slice (some (ad wb 0)) p.nw p.nw)).setCell (ad (w.heap.size+1) 2) (.slice (some (ad yb 0)) p.ny p.ny)).setCell (ad (w.heap.size+1) 3) (.slice (some (ad bb 0)) p.nb p.nb)).setCell (ad (w.heap.size+1) 4) (.int .i64 p.hold)).setCell (ad (w.heap.size+1) 5) (.slice oa no oc)).setCell (ad (w.heap.size+1) 6) (.slice pa np pc)).setCell (ad (w.heap.size+1) 7) (.slice ua p.ny uc))=WZ at *;simp[go_sem,d0,d1,d2,d3,d4,d5,d6,d7]) rfl HR.out
end Go.Proofs.YtkeilejbelblcaaGreatDoor
