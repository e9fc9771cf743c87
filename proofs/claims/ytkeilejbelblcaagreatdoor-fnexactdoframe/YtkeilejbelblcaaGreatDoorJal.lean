import Derived.Test.YtkeilejbelblcaaGreatDoorJai
import Derived.Test.YtkeilejbelblcaaGreatDoorH8
import Derived.Deep.RegionHeld3
namespace Go.Proofs.YtkeilejbelblcaaGreatDoor
open Go.RowKit
def CpAt (w:World) (c:Nat) (xa:Option Addr) (m xc:Nat) (F:Nat->Nat->Value):Prop:=(m=0/\xa=none/\xc=0)\/∃b off,xa=some (ad b off)/\b<w.heap.size/\∀i,i<m->∀j,j<c->w.cell? (ad b (off+i*c+j))=some (F i j)
theorem CpAt.of_own {B:Nat}{e:TypeId}{c:Nat}{w:World}{a:Option Addr}{n cap:Nat}{F:Nat->Nat->Value}(h:VOwn B e c w (.slice a n cap) n F):CpAt w c a n cap F:=by
 rcases h with⟨h1,h2⟩|⟨g,cp,cur,h1,h2,h3,h4,h5,h6,h7⟩
 ·
  simp only[Value.slice.injEq] at h1
  exact .inl ⟨h2,h1.1,h1.2.2⟩
 ·
  simp only[Value.slice.injEq] at h1
  exact .inr ⟨g,0,h1.1,h3.lt,fun i hi j hj=>by rw[h3.cell,Nat.zero_add];exact h7 i hi j hj⟩
theorem run_copy {P:Program}(w:World) (t ty e:TypeId) (i:TypeInfo) (z:Value) (c bytes:Nat) (ht:P.underlying t=some (.slice e)) (hi:P.info? e=some i) (hz:i.zero=some z) (hsize:i.size=c) (hby:i.bytes=bytes) (hzs:z.cells.size=c) (hsz:0<c)
  (xa:Option Addr) (m xc:Nat) (F:Nat->Nat->Value) (h1:∀i j,(F i j).oneCell'=true) (hx:CpAt w c xa m xc F) (h63:m<=maxLen) (hb:m*bytes<=140737488355328):
  ∃v' w',(Builtin.append_ #[t,t] ty #[.slice none 0 0,.slice xa m xc]).run P w=.ok v' w'/\VOwn w.heap.size e c w' v' m F/\w.grownBy w' none:=by
 rcases hx with⟨rfl,rfl,rfl⟩|⟨b,off,rfl,hlt,hc⟩
 ·
  exact⟨_,w,run_append_owned_none w 0 t ty e i c ht hi (.slice none 0 0) 0 [] (World.ownsRow_nil _ _ _ _),VOwn.nil _ _ _ _ _,⟨rfl,rfl,rfl,Nat.le_refl _,fun _ _ _=>rfl⟩⟩
 ·
  obtain⟨v',w',hr,ho,hg,_⟩:=run_append_own (P:=P) w w.heap.size t ty e i z c bytes ht hi hz hsize hby hzs hsz (.slice none 0 0) 0 [] (World.ownsRow_nil _ _ _ _) (ad b off) m xc (vcells c m F) (vcells_len _ _ _) (fun j u hj=>by
    have hk:j<m*c:=by
     by_cases e:j<m*c
     ·
      exact e
     ·
      rw[List.getElem?_eq_none (by rw[vcells_len];omega)] at hj
      cases hj
    obtain⟨k1,k2,k3⟩:=vcells_spot hk
    have hadd:((ad b off):Addr).add j=(ad b (off+j)):=by unfold Addr.add;split<;>simp_all
    rw[<-k3,vcells_at k1 k2] at hj
    rw[hadd,<-k3,<-Nat.add_assoc,hc _ k1 _ k2]
    exact hj) (fun u hu=>by
    simp only[vcells,List.mem_flatMap,List.mem_map] at hu
    obtain⟨i,_,j,_,rfl⟩:=hu
    exact h1 i j) (by omega) (by rw[Nat.zero_add];exact hb) nr
  refine⟨v',w',hr,VOwn.of_row ?_,hg⟩
  simpa using ho
theorem step_copy {P:Program}(w:World) {ops:Array Oper}{o:Oper}{a:Act}{K:Act->World->Prop}{Q:Exit->Act->World->Prop}{E:Prop}(hgd:o.guard=none) (s x:Operand) (t:TypeId)
  (ho:o.op=.call {callee:=.builtin .append,args:=#[s,x],argTypes:=#[t,t]})
  (e:TypeId) (i:TypeInfo) (z:Value) (c bytes:Nat) (ht:P.underlying t=some (.slice e)) (hi:P.info? e=some i) (hz:i.zero=some z)
  (hsize:i.size=c) (hby:i.bytes=bytes) (hzs:z.cells.size=c) (hsz:0<c) (hs:a.eval s=.slice none 0 0)
  (xa:Option Addr) (m xc:Nat) (F:Nat->Nat->Value) (hx:a.eval x=.slice xa m xc) (h1:∀i j,(F i j).oneCell'=true) (hc:CpAt w c xa m xc F) (h63:m<=maxLen) (hb:m*bytes<=140737488355328)
  (h:∀va vc w',VOwn w.heap.size e c w' (.slice va m vc) m F->w.grownBy w' none->K (a.put o.dst (.slice va m vc)) w'):
  if Region.wanted o (yielded ops a.tmps)=true then Oper.wp P o a w K Q else E:=by
 have hw:Region.wanted o (yielded ops a.tmps)=true:=by simp[Region.wanted,hgd]
 rw[if_pos hw]
 obtain⟨v',w',hr,h2,h3⟩:=run_copy (P:=P) w t o.type e i z c bytes ht hi hz hsize hby hzs hsz xa m xc F h1 hc h63 hb
 obtain⟨va,vc,rfl⟩:=h2.val
 unfold Oper.wp execOp
 simp only[ho,resolve,invoke,builtin,Sem.run_bind,Sem.run_pure,Result.andThen_ok,List.map_toArray,List.map_cons,List.map_nil,hs,hx,hr]
 exact h va vc w' h2 h3
def hlG (Y:Nat->Hl) (r rc:Nat->Nat) (i j:Nat):Value:=
 if j=0 then .int .i64 (Y i).st else if j=1 then .int .i64 (Y i).gone else if j=2 then .slice (some (ad (r i) 0)) (Y i).nb (rc i) else if j=3 then .bool (Y i).shown else .int .i64 (Y i).timer
theorem hlG_one (Y:Nat->Hl) (r rc:Nat->Nat) (i j:Nat):(hlG Y r rc i j).oneCell'=true:=by
 unfold hlG
 split
 ·
  rfl
 ·
  split
  ·
   rfl
  ·
   split
   ·
    rfl
   ·
    split<;>rfl
structure HsG (B:Nat) (w:World) (v:Value) (n:Nat) (Y:Nat->Hl) (r rc:Nat->Nat):Prop where
 own:VOwn B 72 5 w v n (hlG Y r rc)
 row:∀i,i<n->VOwn B 4 1 w (.slice (some (ad (r i) 0)) (Y i).nb (rc i)) (Y i).nb (boolF (Y i).B)
 inj:∀i,i<n->∀j,j<n->r i=r j->i=j
theorem HsG.nil (B:Nat) (w:World) (Y:Nat->Hl) (r rc:Nat->Nat):HsG B w (.slice none 0 0) 0 Y r rc:=⟨VOwn.nil _ _ _ _ _,fun _i hi=>absurd hi (Nat.not_lt_zero _),fun _i hi=>absurd hi (Nat.not_lt_zero _)⟩
theorem HsG.mono {B:Nat}{w w':World}{v:Value}{n:Nat}{Y:Nat->Hl}{r rc:Nat->Nat}{M:Nat}(h:HsG B w v n Y r rc) (hb:Below M w w') (hM:w.heap.size<=M):HsG B w' v n Y r rc:=
 ⟨h.own.mono nr hb hM,fun i hi=>(h.row i hi).mono nr hb hM,h.inj⟩
theorem HsG.by_ {B:Nat}{w w':World}{v:Value}{n:Nat}{Y:Nat->Hl}{r rc:Nat->Nat}(h:HsG B w v n Y r rc) (hk:∀b T cur,Box w b T cur->(T=72\/T=4)->w'.heap[b]?=w.heap[b]?):HsG B w' v n Y r rc:=
 ⟨h.own.by_ fun b cur hb=>hk b 72 cur hb (.inl rfl),fun i hi=>(h.row i hi).by_ fun b cur hb=>hk b 4 cur hb (.inr rfl),h.inj⟩
theorem HsG.app {B:Nat}{w w2:World}{v v2:Value}{n:Nat}{Y:Nat->Hl}{r rc:Nat->Nat}{rb cb:Nat}(h:HsG B w v n Y r rc) (hq:VOwn B 72 5 w2 v2 (n+1) (hlG Y (updN r n rb) (updN rc n cb))) (hg:w.grownBy w2 v.ownBlock)
  (ho:VOwn B 4 1 w (.slice (some (ad rb 0)) (Y n).nb cb) (Y n).nb (boolF (Y n).B)) (hne:∀i,i<n->r i≠rb):HsG B w2 v2 (n+1) Y (updN r n rb) (updN rc n cb):=by
 have hk:∀ {u:Value}{m:Nat}{F:Nat->Nat->Value},VOwn B 4 1 w u m F->VOwn B 4 1 w2 u m F:=fun {u m F} hx=>
  hx.keep nr fun g hg'=>hg.block g (hx.lt hg').2 fun e=>hx.apart h.own (by decide) hg' e.symm
 refine⟨hq,fun i hi=>?_,fun i hi j hj e=>?_⟩
 ·
  by_cases c:i=n
  ·
   subst c
   simp only[updN_same]
   exact hk ho
  ·
   simp only[updN_ne c]
   exact hk (h.row i (by omega))
 ·
  by_cases c:i=n
  ·
   by_cases c2:j=n
   ·
    omega
   ·
    subst c
    rw[updN_same,updN_ne c2] at e
    exact absurd e.symm (hne j (by omega))
  ·
   by_cases c2:j=n
   ·
    subst c2
    rw[updN_same,updN_ne c] at e
    exact absurd e (hne i (by omega))
   ·
    rw[updN_ne c,updN_ne c2] at e
    exact h.inj i (by omega) j (by omega) e
theorem HsG.hat {B:Nat}{w:World}{hb n cap:Nat}{Y:Nat->Hl}{r rc:Nat->Nat}(h:HsG B w (.slice (some (ad hb 0)) n cap) n Y r rc) {i:Nat}(hi:i<n):HAt w hb (i*5) (Y i) (r i) (rc i):=by
 have hr:=h.row i hi
 have hne:r i≠hb:=fun e=>hr.apart h.own (by decide) rfl (by simp[Value.ownBlock,e])
 rcases h.own with⟨e1,_⟩|⟨g,cp,cur,e1,_,hbx,hr2⟩
 ·
  cases e1
 rcases hr with⟨e2,_⟩|⟨g2,cp2,cur2,e2,_,hbx2,hr3⟩
 ·
  cases e2
 simp only[Value.slice.injEq,Option.some.injEq,Addr.mk.injEq,and_true,true_and] at e1 e2
 obtain⟨rfl,rfl⟩:=e1
 obtain⟨rfl,rfl⟩:=e2
 have hc:=fun j hj=>(hbx.cell (i*5+j)).trans (hr2.2.2.2 i hi j hj)
 refine⟨hbx.lt,hne,hc 0 (by omega),hc 1 (by omega),hc 2 (by omega),hc 3 (by omega),hc 4 (by omega),fun j _=>hbx.free _,hbx2.lt,fun k hk=>⟨?_,hbx2.free _⟩⟩
 have :=(hbx2.cell (k*1+0)).trans (hr3.2.2.2 k hk 0 (by omega))
 rwa [Nat.mul_one,Nat.add_zero] at this
theorem infoPt:(Tryz.prog.info? 69).map (fun i=>(i.zero,i.size,i.bytes))=some (some (.agg #[.int .i64 0,.int .i64 0]),2,16):=by kernel_rfl
theorem wpList_vcp {P:Program}(w:World) {ops:Array Oper}{rest:List Oper}{o:Oper}{a:Act}{Q:Exit->Act->World->Prop}(hgd:o.guard=none) (s x:Operand) (t:TypeId)
  (ho:o.op=.call {callee:=.builtin .append,args:=#[s,x],argTypes:=#[t,t]})
  (B:Nat) (e:TypeId) (i:TypeInfo) (z:Value) (c bytes:Nat) (ht:P.underlying t=some (.slice e)) (hi:P.info? e=some i) (hz:i.zero=some z)
  (hsize:i.size=c) (hby:i.bytes=bytes) (hzs:z.cells.size=c) (hsz:0<c)
  (v:Value) (F:Nat->Nat->Value) (hs:a.eval s=v) (hown:VOwn B e c w v 0 F)
  (b off m cap:Nat) (G:Nat->Nat->Value) (hx:a.eval x=.slice (some (ad b off)) m cap) (hE:VsAt c 0 w (some (ad b off)) m G) (h1:∀i j,(G i j).oneCell'=true)
  (h63:m<=maxLen) (hbytes:m*bytes<=140737488355328) (hbase:B<=w.heap.size)
  (h:Halt (∀v' w',VOwn B e c w' v' m G->w.grownBy w' v.ownBlock->wpList P ops Q rest (a.put o.dst v') w')):wpList P ops Q (o::rest) a w:=by
 refine wpList_append_own w hgd s x t ho B e i z c bytes ht hi hz hsize hby hzs hsz v 0 (vcells c 0 F) hs hown.row (ad b off) m cap (vcells c m G) hx (vcells_len _ _ _) hE.news (fun u hu=>by
  simp only[vcells,List.mem_flatMap,List.mem_map] at hu
  obtain⟨i,_,j,_,rfl⟩:=hu
  exact h1 i j) (by omega) (by rw[Nat.zero_add];exact hbytes) hbase ?_
 intro v' w' ho' hg' _
 have e0:vcells c 0 F= []:=rfl
 rw[e0,List.nil_append,Nat.zero_add] at ho'
 exact h v' w' (VOwn.of_row ho') hg'
def CopyR (w:World) (f:Fm) (e:Ending) (w':World):Prop:=
 ∃(ov pv hv:Value) (r rc:Nat->Nat),e=.returned (.agg #[.bool f.ok,ov,pv,hv])/\VOwn w.heap.size 4 1 w' ov f.no (boolF f.O)/\VOwn w.heap.size 69 2 w' pv f.np (intF f.P)/\HsG w.heap.size w' hv f.nh f.Y r rc/\(∀g,ov.ownBlock=some g->∀i,i<f.nh->r i≠g)/\Below w.heap.size w w'
def CpM (f:Fm) (ob oo pb po:Nat) (ha:Option Addr) (oc pc hc:Nat) (w:World) (ov:Value) (no:Nat) (pv:Value) (np:Nat) (hv:Value) (k:Nat) (r rc:Nat->Nat) (W:World):Prop:=
 Below w.heap.size w W/\Box W w.heap.size 42 (vFr f (some (ad ob oo)) oc (some (ad pb po)) pc ha hc)/\Box W (w.heap.size+1) 42 z4v/\Box W (w.heap.size+1+1) 42 #[.bool f.ok,ov,pv,hv]/\VOwn w.heap.size 4 1 W ov no (boolF f.O)/\VOwn w.heap.size 69 2 W pv np (intF f.P)/\HsG w.heap.size W hv k f.Y r rc/\(∀g,ov.ownBlock=some g->∀i,i<k->r i≠g)
theorem CpM.keep {f:Fm}{ob oo pb po:Nat}{ha:Option Addr}{oc pc hc:Nat}{w:World}{ov:Value}{no:Nat}{pv:Value}{np:Nat}{hv:Value}{k:Nat}{r rc:Nat->Nat}{W W':World}(h:CpM f ob oo pb po ha oc pc hc w ov no pv np hv k r rc W) (hb:Below W.heap.size W W'):CpM f ob oo pb po ha oc pc hc w ov no pv np hv k r rc W':=by
 obtain⟨h1,h2,h3,h4,h5,h6,h7,h8⟩:=h
 have hl:=Nat.le_refl W.heap.size
 exact⟨h1.trans (hb.mono h1.size),h2.mono hb hl,h3.mono hb hl,h4.mono hb hl,h5.mono nr hb hl,h6.mono nr hb hl,h7.mono hb hl,h8⟩
theorem CpM.occ {f:Fm}{ob oo pb po:Nat}{ha:Option Addr}{oc pc hc:Nat}{w:World}{pv:Value}{np:Nat}{hv:Value}{r rc:Nat->Nat}{W W':World}{ov':Value}{no':Nat}(h:CpM f ob oo pb po ha oc pc hc w (.slice none 0 0) 0 pv np hv 0 r rc W) (hq:VOwn w.heap.size 4 1 W' ov' no' (boolF f.O)) (hg:W.grownBy W' none):
  CpM f ob oo pb po ha oc pc hc w ov' no' pv np hv 0 r rc (W'.setCell (ad (w.heap.size+1+1) 1) ov')/\Box W' (w.heap.size+1+1) 42 #[.bool f.ok,.slice none 0 0,pv,hv]:=by
 obtain⟨h1,h2,h3,h4,h5,h6,h7,h8⟩:=h
 have hb4:Box W' (w.heap.size+1+1) 42 #[.bool f.ok,.slice none 0 0,pv,hv]:=h4.grown hg (by simp)
 have K:∀b T cur,Box W b T cur->b≠(w.heap.size+1+1)->(W'.setCell (ad (w.heap.size+1+1) 1) ov').heap[b]?=W.heap[b]?:=fun b T cur hb hne=>(Below.heap_setCell _ _ _ _ hne).trans (hg.block b hb.lt (by simp))
 have hB:Below w.heap.size W (W'.setCell (ad (w.heap.size+1+1) 1) ov'):=(Below.of_grown hg h1.size fun g e=>by cases e).setCell (by show w.heap.size<=(w.heap.size+1+1);omega) _
 refine⟨⟨h1.trans hB,h2.keep (K _ _ _ h2 (by omega)),h3.keep (K _ _ _ h3 (by omega)),hb4.set 1 ov',hq.set hb4 (by decide) 1 ov',h6.by_ fun b cur hb=>K b 69 cur hb (hb.ne h4 (by decide)),h7.by_ fun b T cur hb hT=>K b T cur hb (hb.ne h4 (by rcases hT with rfl|rfl<;>decide)),fun _ _ i hi=>absurd hi (Nat.not_lt_zero _)⟩,hb4⟩
theorem CpM.pts {f:Fm}{ob oo pb po:Nat}{ha:Option Addr}{oc pc hc:Nat}{w:World}{ov:Value}{no:Nat}{hv:Value}{k:Nat}{r rc:Nat->Nat}{W W':World}{pv':Value}{np':Nat}(h:CpM f ob oo pb po ha oc pc hc w ov no (.slice none 0 0) 0 hv k r rc W) (hq:VOwn w.heap.size 69 2 W' pv' np' (intF f.P)) (hg:W.grownBy W' none):
  CpM f ob oo pb po ha oc pc hc w ov no pv' np' hv k r rc (W'.setCell (ad (w.heap.size+1+1) 2) pv')/\Box W' (w.heap.size+1+1) 42 #[.bool f.ok,ov,.slice none 0 0,hv]:=by
 obtain⟨h1,h2,h3,h4,h5,h6,h7,h8⟩:=h
 have hb4:Box W' (w.heap.size+1+1) 42 #[.bool f.ok,ov,.slice none 0 0,hv]:=h4.grown hg (by simp)
 have K:∀b T cur,Box W b T cur->b≠(w.heap.size+1+1)->(W'.setCell (ad (w.heap.size+1+1) 2) pv').heap[b]?=W.heap[b]?:=fun b T cur hb hne=>(Below.heap_setCell _ _ _ _ hne).trans (hg.block b hb.lt (by simp))
 have hB:Below w.heap.size W (W'.setCell (ad (w.heap.size+1+1) 2) pv'):=(Below.of_grown hg h1.size fun g e=>by cases e).setCell (by show w.heap.size<=(w.heap.size+1+1);omega) _
 refine⟨⟨h1.trans hB,h2.keep (K _ _ _ h2 (by omega)),h3.keep (K _ _ _ h3 (by omega)),hb4.set 2 pv',h5.by_ fun b cur hb=>K b 4 cur hb (hb.ne h4 (by decide)),hq.set hb4 (by decide) 2 pv',h7.by_ fun b T cur hb hT=>K b T cur hb (hb.ne h4 (by rcases hT with rfl|rfl<;>decide)),h8⟩,hb4⟩
theorem CpM.way {f:Fm}{ob oo pb po:Nat}{ha:Option Addr}{oc pc hc:Nat}{w:World}{ov:Value}{no:Nat}{pv:Value}{np:Nat}{hv:Value}{k:Nat}{r rc:Nat->Nat}{W W':World}{hv':Value}{rb cb:Nat}(h:CpM f ob oo pb po ha oc pc hc w ov no pv np hv k r rc W) (hq:VOwn w.heap.size 72 5 W' hv' (k+1) (hlG f.Y (updN r k rb) (updN rc k cb))) (hg:W.grownBy W' hv.ownBlock)
  (ho:VOwn w.heap.size 4 1 W (.slice (some (ad rb 0)) (f.Y k).nb cb) (f.Y k).nb (boolF (f.Y k).B)) (hne:∀i,i<k->r i≠rb) (hov:∀g,ov.ownBlock=some g->rb≠g):
  CpM f ob oo pb po ha oc pc hc w ov no pv np hv' (k+1) (updN r k rb) (updN rc k cb) (W'.setCell (ad (w.heap.size+1+1) 3) hv')/\Box W' (w.heap.size+1+1) 42 #[.bool f.ok,ov,pv,hv]:=by
 obtain⟨h1,h2,h3,h4,h5,h6,h7,h8⟩:=h
 have hb4:Box W' (w.heap.size+1+1) 42 #[.bool f.ok,ov,pv,hv]:=h4.grown hg fun e=>h7.own.off h4 (by decide) e rfl
 have K:∀b T cur,Box W b T cur->T≠72->b≠(w.heap.size+1+1)->(W'.setCell (ad (w.heap.size+1+1) 3) hv').heap[b]?=W.heap[b]?:=fun b T cur hb hT hne=>(Below.heap_setCell _ _ _ _ hne).trans (hg.block b hb.lt fun e=>h7.own.off hb hT e.symm rfl)
 have hB:Below w.heap.size W (W'.setCell (ad (w.heap.size+1+1) 3) hv'):=(Below.of_grown hg h1.size fun g e=>(h7.own.lt e).1).setCell (by show w.heap.size<=(w.heap.size+1+1);omega) _
 have h7':=h7.app hq hg ho hne
 have K2:∀b T cur,Box W' b T cur->T≠42->(W'.setCell (ad (w.heap.size+1+1) 3) hv').heap[b]?=W'.heap[b]?:=fun b T cur hb hT=>Below.heap_setCell _ _ _ _ (hb.ne hb4 hT)
 refine⟨⟨h1.trans hB,h2.keep (K _ _ _ h2 (by decide) (by omega)),h3.keep (K _ _ _ h3 (by decide) (by omega)),hb4.set 3 hv',h5.by_ fun b cur hb=>K b 4 cur hb (by decide) (hb.ne h4 (by decide)),h6.by_ fun b cur hb=>K b 69 cur hb (by decide) (hb.ne h4 (by decide)),h7'.by_ fun b T cur hb hT=>K2 b T cur hb (by rcases hT with rfl|rfl<;>decide),fun g hg' i hi=>?_⟩,hb4⟩
 by_cases c:i=k
 ·
  subst c
  rw[updN_same]
  exact hov g hg'
 ·
  rw[updN_ne c]
  exact h8 g hg' i (by omega)
set_option maxRecDepth 100000 in
set_option maxHeartbeats 16000000 in
theorem copy33 (f:Fm) (ob oo pb po:Nat) (ha:Option Addr) (oc pc hc:Nat) (w:World) (hfo:f.no<=1048576) (hfp:f.np<=1048576) (hfh:f.nh<=1048576) (hnb:∀i,i<f.nh->1<=(f.Y i).nb/\(f.Y i).nb<=1048576) (ho:VsAt 1 0 w (some (ad ob oo)) f.no (boolF f.O)) (hp:VsAt 2 0 w (some (ad pb po)) f.np (intF f.P)) (hh:HsAt 0 w ha f.nh f.Y):
  Calls Tryz.prog 33 #[.agg #[.bool f.ok,.slice (some (ad ob oo)) f.no oc,.slice (some (ad pb po)) f.np pc,.slice ha f.nh hc]] w fun e w'=>CopyR w f e w':=by
 obtain⟨i1,hi1,hz1,hs1,hb1⟩:=info_parts infoBool
 obtain⟨i2,hi2,hz2,hs2,hb2⟩:=info_parts infoPt
 obtain⟨i3,hi3,hz3,hs3,hb3⟩:=info_parts infoHeld
 have B3:=bel3 w (.cells (vFr f (some (ad ob oo)) oc (some (ad pb po)) pc ha hc) 42) (.cells z4v 42) (.cells #[.bool f.ok,.slice none 0 0,.slice none 0 0,.slice none 0 0] 42)
 have M0:Hid (CpM f ob oo pb po ha oc pc hc w (.slice none 0 0) 0 (.slice none 0 0) 0 (.slice none 0 0) 0 (fun _=>0) (fun _=>0) (((w.alloc (.cells (vFr f (some (ad ob oo)) oc (some (ad pb po)) pc ha hc) 42)).alloc (.cells z4v 42)).alloc (.cells #[.bool f.ok,.slice none 0 0,.slice none 0 0,.slice none 0 0] 42))):=⟨B3,((Box.new _ _ _).alloc _).alloc _,by have :=(Box.new (w.alloc (.cells (vFr f (some (ad ob oo)) oc (some (ad pb po)) pc ha hc) 42)) 42 z4v).alloc (.cells #[.bool f.ok,.slice none 0 0,.slice none 0 0,.slice none 0 0] 42);simpa using this,by have :=Box.new ((w.alloc (.cells (vFr f (some (ad ob oo)) oc (some (ad pb po)) pc ha hc) 42)).alloc (.cells z4v 42)) 42 #[.bool f.ok,.slice none 0 0,.slice none 0 0,.slice none 0 0];simpa using this,VOwn.nil _ _ _ _ _,VOwn.nil _ _ _ _ _,HsG.nil _ _ _ _ _,fun _ _ i hi=>absurd hi (Nat.not_lt_zero _)⟩
 have HO:Hid (VsAt 1 0 w (some (ad ob oo)) f.no (boolF f.O)/\VsAt 2 0 w (some (ad pb po)) f.np (intF f.P)/\HsAt 0 w ha f.nh f.Y/\∀i,i<f.nh->1<=(f.Y i).nb/\(f.Y i).nb<=1048576):=⟨ho,hp,hh,hnb⟩
 have hv1:=ho.mono nr B3 nr
 clear ho hp hh hnb B3
 go_enter Tryz.func33,Tryz.ntmps33
 go_wp2_with(at_builtin;go_must (refine wpList_vcp _ rfl _ _ 27 rfl w.heap.size 4 i1 _ 1 1 Tryz.underlying27 hi1 hz1 hs1 hb1 rfl (by decide) (.slice none 0 0) (boolF f.O) rfl (VOwn.nil _ _ _ _ _) ob oo f.no oc (boolF f.O) rfl hv1 (fun _ _=>rfl) (by simp only[maxLen];omega) (by omega) (by simp;omega) (Halt.mk ?_)))
 intro v1 w1 o1 g1
 obtain⟨hM1,hB1⟩:=M0.out.occ o1 g1
 obtain⟨va1,vc1,hv⟩:=o1.val
 subst hv
 have M1:Hid (CpM f ob oo pb po ha oc pc hc w (.slice va1 f.no vc1) f.no (.slice none 0 0) 0 (.slice none 0 0) 0 (fun _=>0) (fun _=>0) (w1.setCell (ad (w.heap.size+1+1) 1) (.slice va1 f.no vc1))):=hM1
 have c1:=hB1.cel 1
 have c2:=hB1.cel 2
 have c4:=hB1.free 1
 have cp:w1.cell? (ad w.heap.size 2)=some (.slice (some (ad pb po)) f.np pc):=by have :=(M0.out.2.1.grown g1 (by simp[Value.ownBlock])).cell 2;exact this
 have hv2:=HO.out.2.1.mono nr M1.out.1 nr
 have hsz1:w.heap.size<=(w1.setCell (ad (w.heap.size+1+1) 1) (.slice va1 f.no vc1)).heap.size:=M1.out.1.size
 clear hM1 hB1 o1 g1 M0 hv1
 go_wp2_with(at_builtin;go_must (refine wpList_vcp _ rfl _ _ 39 rfl w.heap.size 69 i2 _ 2 16 Tryz.underlying39 hi2 hz2 hs2 hb2 rfl (by decide) (.slice none 0 0) (intF f.P) rfl (VOwn.nil _ _ _ _ _) pb po f.np pc (intF f.P) rfl hv2 (fun _ _=>rfl) (by simp only[maxLen];omega) (by omega) hsz1 (Halt.mk ?_)))
 intro v2 w2 o2 g2
 obtain⟨hM2,hB2⟩:=M1.out.pts o2 g2
 obtain⟨va2,vc2,hv⟩:=o2.val
 subst hv
 have M2:Hid (CpM f ob oo pb po ha oc pc hc w (.slice va1 f.no vc1) f.no (.slice va2 f.np vc2) f.np (.slice none 0 0) 0 (fun _=>0) (fun _=>0) (w2.setCell (ad (w.heap.size+1+1) 2) (.slice va2 f.np vc2))):=hM2
 have d2:=hB2.cel 2
 have d4:=hB2.free 2
 have dp:w2.cell? (ad w.heap.size 3)=some (.slice ha f.nh hc):=by have :=(M1.out.2.1.grown g2 (by simp[Value.ownBlock])).cell 3;exact this
 clear hM2 hB2 o2 g2 M1 hv2 c1 c2 c4 cp hsz1
 go_wp2_with fail
 generalize w2.setCell (ad (w.heap.size+1+1) 2) (.slice va2 f.np vc2)=W at M2⊢
 clear d2 d4 dp
 go_loopw [25] (fun i wr=>∃(q:Nat) (hv:Value) (r rc:Nat->Nat),q<=f.nh/\i=.int .i64 q/\Hid (CpM f ob oo pb po ha oc pc hc w (.slice va1 f.no vc1) f.no (.slice va2 f.np vc2) f.np hv q r rc wr)) (fun i _=>f.nh-(intOf i).toNat)
 case atStart=>exact⟨0,_,_,_,Nat.zero_le _,rfl,M2⟩
 case round=>
  obtain⟨q,hv,r,rc,hq,rfl,M⟩:=hrel
  by_cases hlt:q<f.nh
  ·
   obtain⟨va3,vc3,hv3⟩:=M.out.2.2.2.2.2.2.1.own.val
   subst hv3
   obtain⟨b,off,hha,_,hb0,hcc⟩:=HO.out.2.2.1.mono nr M.out.1 nr (by omega)
   obtain⟨xa,xc,x0,x1,x2,x3,x4,hvx⟩:=hcc q hlt
   have hn:=HO.out.2.2.2 q hlt
   obtain⟨hh,HHe⟩:∃hh,Hid (f.Y q=hh):=⟨_,rfl⟩
   rw[HHe.out] at x0 x1 x2 x3 x4 hvx hn
   obtain⟨st,gone,nb,B,sh,t⟩:=hh
   dsimp only at x0 x1 x2 x3 x4 hvx hn
   obtain⟨bb,bo,rfl,_,hbb,_⟩:=hvx (by omega)
   subst hha
   clear hcc
   have hq0:(0:Int)<=(q:Int):=by omega
   have hqn:(q:Int)<(f.nh:Int):=by omega
   have M5:=M.out.keep (bel3 wr (.cells #[.int .i64 st,.int .i64 gone,.slice (some (ad bb bo)) nb xc,.bool sh,.int .i64 t] 72) (.cells #[.int .i64 st,.int .i64 gone,.slice (some (ad bb bo)) nb xc,.bool sh,.int .i64 t] 72) (.cells #[] 4))
   have hrow:VOwn wr.heap.size 4 1 (((wr.alloc (.cells #[.int .i64 st,.int .i64 gone,.slice (some (ad bb bo)) nb xc,.bool sh,.int .i64 t] 72)).alloc (.cells #[.int .i64 st,.int .i64 gone,.slice (some (ad bb bo)) nb xc,.bool sh,.int .i64 t] 72)).alloc (.cells #[] 4)) (.slice (some (ad (wr.heap.size+1+1) 0)) 0 0) 0 (boolF B):=.inr ⟨_,0,#[],rfl,by omega,by have :=Box.new ((wr.alloc (.cells #[.int .i64 st,.int .i64 gone,.slice (some (ad bb bo)) nb xc,.bool sh,.int .i64 t] 72)).alloc (.cells #[.int .i64 st,.int .i64 gone,.slice (some (ad bb bo)) nb xc,.bool sh,.int .i64 t] 72)) 4 #[];simpa using this,Nat.le_refl _,by simp,rfl,fun i hi=>absurd hi (Nat.not_lt_zero _)⟩
   have hvx5:=hvx.mono nr (bel3 wr (.cells #[.int .i64 st,.int .i64 gone,.slice (some (ad bb bo)) nb xc,.bool sh,.int .i64 t] 72) (.cells #[.int .i64 st,.int .i64 gone,.slice (some (ad bb bo)) nb xc,.bool sh,.int .i64 t] 72) (.cells #[] 4)) nr
   have HBx:Hid (Box (((wr.alloc (.cells #[.int .i64 st,.int .i64 gone,.slice (some (ad bb bo)) nb xc,.bool sh,.int .i64 t] 72)).alloc (.cells #[.int .i64 st,.int .i64 gone,.slice (some (ad bb bo)) nb xc,.bool sh,.int .i64 t] 72)).alloc (.cells #[] 4)) (wr.heap.size+1) 72 #[.int .i64 st,.int .i64 gone,.slice (some (ad bb bo)) nb xc,.bool sh,.int .i64 t]):=by
    rw[Hid]
    have :=(Box.new (wr.alloc (.cells #[.int .i64 st,.int .i64 gone,.slice (some (ad bb bo)) nb xc,.bool sh,.int .i64 t] 72)) 72 #[.int .i64 st,.int .i64 gone,.slice (some (ad bb bo)) nb xc,.bool sh,.int .i64 t]).alloc (.cells #[] 4)
    simpa using this
   go_wp2_with(at_builtin;go_must (refine wpList_vcp _ rfl _ _ 27 rfl wr.heap.size 4 i1 _ 1 1 Tryz.underlying27 hi1 hz1 hs1 hb1 rfl (by decide) (.slice (some (ad (wr.heap.size+1+1) 0)) 0 0) (boolF B) rfl hrow bb bo nb xc (boolF B) rfl hvx5 (fun _ _=>rfl) (by simp only[maxLen];omega) (by omega) (by simp;omega) (Halt.mk ?_)))
   intro v6 w6 o6 g6
   obtain⟨rb,cb,hv6⟩:∃rb cb,v6=.slice (some (ad rb 0)) nb cb:=by
    rcases o6 with⟨_,e⟩|⟨g,cp,cur,e,_⟩
    ·
     omega
    ·
     exact⟨g,cp,e⟩
   subst hv6
   have hrb:wr.heap.size<=rb:=(o6.lt rfl).1
   have hbx6:Box w6 (wr.heap.size+1) 72 #[.int .i64 st,.int .i64 gone,.slice (some (ad bb bo)) nb xc,.bool sh,.int .i64 t]:=HBx.out.grown g6 (by simp[Value.ownBlock])
   have hbl6:Below wr.heap.size wr w6:=(bel3 wr (.cells #[.int .i64 st,.int .i64 gone,.slice (some (ad bb bo)) nb xc,.bool sh,.int .i64 t] 72) (.cells #[.int .i64 st,.int .i64 gone,.slice (some (ad bb bo)) nb xc,.bool sh,.int .i64 t] 72) (.cells #[] 4)).trans (Below.of_grown g6 (by simp;omega) fun g e=>by have :=own_block e;omega)
   have hbl7:Below wr.heap.size wr (w6.setCell (ad (wr.heap.size+1) 2) (.slice (some (ad rb 0)) nb cb)):=hbl6.setCell (by show wr.heap.size<=wr.heap.size+1;omega) _
   have hbl8:Below wr.heap.size wr ((w6.setCell (ad (wr.heap.size+1) 2) (.slice (some (ad rb 0)) nb cb)).alloc (.cells #[.int .i64 st,.int .i64 gone,.slice (some (ad rb 0)) nb cb,.bool sh,.int .i64 t] 72)):=hbl7.alloc hbl7.size _
   have M8:Hid (CpM f ob oo pb po (some (ad b off)) oc pc hc w (.slice va1 f.no vc1) f.no (.slice va2 f.np vc2) f.np (.slice va3 q vc3) q r rc ((w6.setCell (ad (wr.heap.size+1) 2) (.slice (some (ad rb 0)) nb cb)).alloc (.cells #[.int .i64 st,.int .i64 gone,.slice (some (ad rb 0)) nb cb,.bool sh,.int .i64 t] 72))):=M.out.keep hbl8
   have HRW:Hid (VOwn w.heap.size 4 1 ((w6.setCell (ad (wr.heap.size+1) 2) (.slice (some (ad rb 0)) nb cb)).alloc (.cells #[.int .i64 st,.int .i64 gone,.slice (some (ad rb 0)) nb cb,.bool sh,.int .i64 t] 72)) (.slice (some (ad rb 0)) (f.Y q).nb cb) (f.Y q).nb (boolF (f.Y q).B)):=by
    rw[HHe.out]
    exact(o6.set hbx6 (by decide) 2 _).mono M.out.1.size (bel1 _ _) nr
   have HNE:Hid ((∀i,i<q->r i≠rb)/\∀g,(Value.slice va1 f.no vc1).ownBlock=some g->rb≠g):=⟨fun i hi=>Nat.ne_of_lt (Nat.lt_of_lt_of_le ((M.out.2.2.2.2.2.2.1.row i hi).lt rfl).2 hrb),fun g hg=>Ne.symm (Nat.ne_of_lt (Nat.lt_of_lt_of_le (M.out.2.2.2.2.1.lt hg).2 hrb))⟩
   have HOW:Hid (VOwn w.heap.size 72 5 ((w6.setCell (ad (wr.heap.size+1) 2) (.slice (some (ad rb 0)) nb cb)).alloc (.cells #[.int .i64 st,.int .i64 gone,.slice (some (ad rb 0)) nb cb,.bool sh,.int .i64 t] 72)) (.slice va3 q vc3) q (hlG f.Y (updN r q rb) (updN rc q cb))):=by
    refine(M8.out.2.2.2.2.2.2.1.own).congr fun i hi j _=>?_
    simp only[hlG,updN_ne (show i≠q by omega)]
   have HBN:Hid (Box ((w6.setCell (ad (wr.heap.size+1) 2) (.slice (some (ad rb 0)) nb cb)).alloc (.cells #[.int .i64 st,.int .i64 gone,.slice (some (ad rb 0)) nb cb,.bool sh,.int .i64 t] 72)) w6.heap.size 72 #[.int .i64 st,.int .i64 gone,.slice (some (ad rb 0)) nb cb,.bool sh,.int .i64 t]):=by
    rw[Hid]
    have :=Box.new (w6.setCell (ad (wr.heap.size+1) 2) (.slice (some (ad rb 0)) nb cb)) 72 #[.int .i64 st,.int .i64 gone,.slice (some (ad rb 0)) nb cb,.bool sh,.int .i64 t]
    simpa only[size_setc] using this
   have HXS:Hid ((#[.int .i64 st,.int .i64 gone,.slice (some (ad rb 0)) nb cb,.bool sh,.int .i64 t]:Array Value).toList=(List.range 5).map (hlG f.Y (updN r q rb) (updN rc q cb) q)):=by
    rw[Hid]
    simp[hlG,List.range_succ,HHe.out,updN_same]
   obtain⟨k0,k1,k2,k3,k4⟩:=hbx6.c5
   have kf:=hbx6.free 2
   have kh:=(M.out.keep hbl6).2.2.2.1.cel 3
   have hxl:wr.heap.size+1<w6.heap.size:=hbx6.lt
   have hfl:w.heap.size+1+1<wr.heap.size:=M.out.2.2.2.1.lt
   have hsz8:w.heap.size<=((w6.setCell (ad (wr.heap.size+1) 2) (.slice (some (ad rb 0)) nb cb)).alloc (.cells #[.int .i64 st,.int .i64 gone,.slice (some (ad rb 0)) nb cb,.bool sh,.int .i64 t] 72)).heap.size:=M8.out.1.size
   clear hbx6 hbl6 hbl7 hbl8 o6 g6 M5 hrow hvx5 HBx M x0 x1 x2 x3 x4 hvx
   go_wp2_with(at_builtin;go_must (refine wpList_vapp _ rfl _ _ 40 rfl w.heap.size 72 i3 _ 5 56 Tryz.underlying40 hi3 hz3 hs3 hb3 rfl (by decide) (.slice va3 q vc3) q (hlG f.Y (updN r q rb) (updN rc q cb)) rfl HOW.out (hlG_one _ _ _) w6.heap.size 1 #[.int .i64 st,.int .i64 gone,.slice (some (ad rb 0)) nb cb,.bool sh,.int .i64 t] rfl HBN.out HXS.out (by simp only[maxLen];omega) (by omega) hsz8 (Halt.mk ?_)))
   intro v9 w9 o9 g9
   obtain⟨hM9,hB9⟩:=M8.out.way o9 g9 HRW.out HNE.out.1 HNE.out.2
   have M9:Hid (CpM f ob oo pb po (some (ad b off)) oc pc hc w (.slice va1 f.no vc1) f.no (.slice va2 f.np vc2) f.np v9 (q+1) (updN r q rb) (updN rc q cb) (w9.setCell (ad (w.heap.size+1+1) 3) v9)):=hM9
   obtain⟨va9,vc9,hv9⟩:=o9.val
   subst hv9
   have m3:=hB9.cel 3
   have m4:=hB9.free 3
   clear hM9 hB9 o9 g9 M8 HRW HNE HOW HBN HXS k0 k1 k2 k3 k4 kf kh hsz8
   go_wp2_with fail
   go_roundw
   case rel=>exact⟨q+1,_,_,_,by omega,by go_num,M9⟩
   case measure=>simp[intOf];omega
  ·
   obtain rfl:q=f.nh:=by omega
   obtain⟨va3,vc3,hv3⟩:=M.out.2.2.2.2.2.2.1.own.val
   subst hv3
   obtain⟨h1,h2,h3,h4,h5,h6,h7,h8⟩:=M.out
   obtain⟨e0,e1,e2,e3⟩:=h4.c4
   obtain⟨z0,z1,z2,z3⟩:=h3.c4
   obtain⟨y0,y1,y2,y3⟩:=h3.f4
   have HR:Hid (∀w',Fr (fun b=>b=w.heap.size+1) wr w'->CopyR w f (.returned (.agg #[.bool f.ok,.slice va1 f.no vc1,.slice va2 f.np vc2,.slice va3 f.nh vc3])) w'):=fun w' hf=>by
    have K:∀b T cur,Box wr b T cur->T≠42->w'.heap[b]?=wr.heap[b]?:=fun b T cur hb hT=>hf.block b hb.lt (hb.ne h3 hT)
    exact⟨_,_,_,r,rc,rfl,h5.by_ fun b cur hb=>K b 4 cur hb (by decide),h6.by_ fun b cur hb=>K b 69 cur hb (by decide),h7.by_ fun b T cur hb hT=>K b T cur hb (by rcases hT with rfl|rfl<;>decide),h8,h1.trans (hf.below h1.size fun k hk=>by omega)⟩
   have HF0:Hid (Fr (fun b=>b=w.heap.size+1) wr wr):=Fr.refl _ _
   clear h1 h2 h3 h4 h5 h6 h7 h8
   go_wp2_with fail
   refine bodyPost_ret (v:=.agg #[.bool f.ok,.slice va1 f.no vc1,.slice va2 f.np vc2,.slice va3 f.nh vc3]) (by simp[results,Tryz.results33,go_sem,z0,z1,z2,z3]) rfl ?_
   exact HR.out _ ((((HF0.out.cells rfl 0 _).cells rfl 1 _).cells rfl 2 _).cells rfl 3 _)
end Go.Proofs.YtkeilejbelblcaaGreatDoor
