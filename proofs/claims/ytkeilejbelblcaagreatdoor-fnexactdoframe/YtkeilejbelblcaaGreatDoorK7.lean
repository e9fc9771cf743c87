import Derived.Test.YtkeilejbelblcaaGreatDoorGK5K6
import Derived.Test.YtkeilejbelblcaaGreatDoorJaj
namespace Go.Proofs.YtkeilejbelblcaaGreatDoor
open Go.RowKit Go.Lib
theorem take_lit {P:Program}{L:List Oper}{Q:Exit->Act->World->Prop}{md:Region.Mode}{S:World->Prop}{i:Nat}{oi:Oper}{v:Value}{fuel:Nat}{listed:Array Bool}{a:Act}{w:World}(hi:L[i]?=some oi)
  (hs:Region.noSelect L.toArray=true) (hf:Region.free md L.toArray listed i=true) (hr:(Region.ready md L.toArray listed).contains i=true)
  (hQ:∀c a w,Q (.panic c) (a.put oi.dst v) w->Q (.panic c) a w) (hy:YieldsIf P L.toArray S oi v a) (hS:S w)
  (h:wpAnyH P md L.toArray Q S fuel (listed.setIfInBounds i true) (a.put oi.dst v) w):wpAnyH P md L.toArray Q S (fuel+1) listed a w:=
 wpAnyH_take (by simpa using hi) hs hf hr hQ hy hS h
theorem ready_lit {P:Program}{L:List Oper}{Q:Exit->Act->World->Prop}{md:Region.Mode}{S:World->Prop}{i:Nat}{o:Oper}{fuel:Nat}{listed:Array Bool}{a:Act}{w:World}(hr:Region.ready md L.toArray listed= [i]) (ho:L[i]?=some o)
  (h:∀K':Act->World->Prop,Shut (∀a w,S w->(S w->wpAnyH P md L.toArray Q S fuel (listed.setIfInBounds i true) a w)->K' a w)->if Region.wanted o (yielded L.toArray a.tmps)=true then Oper.wp P o a w K' Q else K' (a.put o.dst undef) w):wpAnyH P md L.toArray Q S (fuel+1) listed a w:=
 wpAnyH_ready hr (by simp) (AllReadyH.cons (by simpa using ho) h AllReadyH.nil)
theorem tk {P:Program}{L:List Oper}{Q:Exit->Act->World->Prop}{md:Region.Mode}{S:World->Prop}{oi:Oper}{v:Value}{fuel:Nat}{listed l2:Array Bool}{a a2:Act}{w:World}(i:Nat) (h:wpAnyH P md L.toArray Q S fuel l2 a2 w) (hi:L[i]?=some oi:=by rfl)
  (hs:Region.noSelect L.toArray=true:=by kernel_rfl) (hf:Region.free md L.toArray listed i=true:=by kernel_rfl) (hr:(Region.ready md L.toArray listed).contains i=true:=by kernel_rfl)
  (hy:YieldsIf P L.toArray S oi v a:=by exact Or.inl ⟨by rfl,by intro wq hSw;(try dsimp only at hSw);go_simp;try with_reducible rfl⟩)
  (hQ:∀c a w,Q (.panic c) (a.put oi.dst v) w->Q (.panic c) a w:=by exact fun _ _ _ h=>h) (hS:S w:=by assumption)
  (hl:listed.setIfInBounds i true=l2:=by((try simp only[List.setIfInBounds_toArray,List.set_cons_zero,List.set_cons_succ]);rfl)) (ha:a.put oi.dst v=a2:=by(simp only[Act.put,List.setIfInBounds_toArray,List.set_cons_zero,List.set_cons_succ];rfl)):wpAnyH P md L.toArray Q S (fuel+1) listed a w:=
 take_lit hi hs hf hr hQ hy hS (by rw[hl,ha];exact h)
theorem tf {P:Program}{L:List Oper}{Q:Exit->Act->World->Prop}{md:Region.Mode}{S:World->Prop}{oi:Oper}{fuel:Nat}{listed l2:Array Bool}{a a2:Act}{w:World}(i:Nat) (h:wpAnyH P md L.toArray Q S fuel l2 a2 w) (hi:L[i]?=some oi:=by rfl)
  (hs:Region.noSelect L.toArray=true:=by kernel_rfl) (hf:Region.free md L.toArray listed i=true:=by kernel_rfl) (hr:(Region.ready md L.toArray listed).contains i=true:=by kernel_rfl)
  (hy:YieldsIf P L.toArray S oi undef a:=by exact Or.inr ⟨by kernel_rfl,rfl⟩)
  (hQ:∀c a w,Q (.panic c) (a.put oi.dst undef) w->Q (.panic c) a w:=by exact fun _ _ _ h=>h) (hS:S w:=by assumption)
  (hl:listed.setIfInBounds i true=l2:=by((try simp only[List.setIfInBounds_toArray,List.set_cons_zero,List.set_cons_succ]);rfl)) (ha:a.put oi.dst undef=a2:=by(simp only[Act.put,List.setIfInBounds_toArray,List.set_cons_zero,List.set_cons_succ];rfl)):wpAnyH P md L.toArray Q S (fuel+1) listed a w:=
 take_lit hi hs hf hr hQ hy hS (by rw[hl,ha];exact h)
theorem rl {P:Program}{L:List Oper}{Q:Exit->Act->World->Prop}{md:Region.Mode}{S:World->Prop}{o:Oper}{fuel:Nat}{listed:Array Bool}{a:Act}{w:World}(i:Nat)
  (h:∀K':Act->World->Prop,Shut (∀a w,S w->(S w->wpAnyH P md L.toArray Q S fuel (listed.setIfInBounds i true) a w)->K' a w)->if Region.wanted o (yielded L.toArray a.tmps)=true then Oper.wp P o a w K' Q else K' (a.put o.dst undef) w)
  (hr:Region.ready md L.toArray listed= [i]:=by kernel_rfl) (ho:L[i]?=some o:=by rfl):wpAnyH P md L.toArray Q S (fuel+1) listed a w:=
 ready_lit hr ho h
theorem used_step {w:World}{q:Nat}{y:Wy}{nb nc:Nat}{B Ov:Nat->Bool}{M:Nat}{x:Bool}(h:VOwn M 4 1 w (.slice (some (ad nb 0)) y.ns nc) y.ns (boolF (fun j=>if j<q then onB B Ov j else B j))) (hq:q<y.ns) (hx:x=onB B Ov q):
  VOwn M 4 1 (w.setCell (ad nb q) (.bool x)) (.slice (some (ad nb 0)) y.ns nc) y.ns (boolF (fun j=>if j<q+1 then onB B Ov j else B j)):=by
 have h1:=h.store (i:=q) (j:=0) hq (by omega) (.bool x)
 rw[Nat.mul_one,Nat.add_zero] at h1
 refine h1.congr fun i hi j hj=>?_
 unfold upd
 by_cases c:i=q
 ·
  subst c
  obtain rfl:j=0:=by omega
  simp[hx]
 ·
  rw[if_neg (fun e=>c e.1)]
  by_cases d:i<q
  ·
   simp[d,show i<q+1 by omega]
  ·
   simp[d,show¬i<q+1 by omega]
def goneU (b:Nat) (w:World):Nat:=match w.cell? (ad b 0) with
 |some v=>(intOf v).toNat
 |none=>0
def SlR (w:World) (n:Nat) (s:WS) (e:Ending) (w':World):Prop:=∃v,e=.returned v/\WsV w' n s v/\Below w.heap.size w w'
set_option maxRecDepth 100000 in
set_option maxHeartbeats 8000000 in
theorem used199 (y:Wy) (b1 b2 b3 b4 b5:Nat) (oa:Option Addr) (no oc:Nat) (O:Nat->Bool) (pa:Option Addr) (np pc:Nat) (P:Nat->Nat->Int) (g:Nat) (rb cap:Nat) (B:Nat->Bool) (sh:Bool) (w:World) (hn1:1<=y.ns) (hg:g<=y.ns) (h:VwIn w y b1 b2 b3 b4 b5 oa no O pa np P) (hB:VsAt 1 0 w (some (ad rb 0)) y.ns (boolF B)):
  Calls Tryz.prog 200 #[.agg #[.int .i64 (g:Int),.slice (some (ad rb 0)) y.ns cap,.bool sh],.agg #[.slice (some (ad b1 0)) y.ns y.ns,.slice (some (ad b2 0)) y.nl y.nl,.slice (some (ad b3 0)) y.nf y.nf,.slice (some (ad b4 0)) y.no y.no,.slice (some (ad b5 0)) y.nm y.nm,.slice oa no oc,.slice pa np pc]] w fun e w'=>SlR w y.ns (useS ⟨y.ns,fun k=>O (y.S k).toNat,prvB y O P⟩ g B sh) e w':=by
 have H:Hid (VwIn w y b1 b2 b3 b4 b5 oa no O pa np P):=h
 have hns:y.ns<=1048576:=by have :=h.sm.1;omega
 have S0:Hid (Below w.heap.size w ((w.alloc (.cells #[.int .i64 (g:Int),.slice (some (ad rb 0)) y.ns cap,.bool sh] 169)).alloc (.cells (vVw y b1 b2 b3 b4 b5 oa no oc pa np pc) 114))/\Box ((w.alloc (.cells #[.int .i64 (g:Int),.slice (some (ad rb 0)) y.ns cap,.bool sh] 169)).alloc (.cells (vVw y b1 b2 b3 b4 b5 oa no oc pa np pc) 114)) w.heap.size 169 #[.int .i64 (g:Int),.slice (some (ad rb 0)) y.ns cap,.bool sh]/\Box ((w.alloc (.cells #[.int .i64 (g:Int),.slice (some (ad rb 0)) y.ns cap,.bool sh] 169)).alloc (.cells (vVw y b1 b2 b3 b4 b5 oa no oc pa np pc) 114)) (w.heap.size+1) 114 (vVw y b1 b2 b3 b4 b5 oa no oc pa np pc)):=⟨bel2 _ _ _,(Box.new _ _ _).alloc _,by have :=Box.new (w.alloc (.cells #[.int .i64 (g:Int),.slice (some (ad rb 0)) y.ns cap,.bool sh] 169)) 114 (vVw y b1 b2 b3 b4 b5 oa no oc pa np pc);simpa using this⟩
 have HB0:Hid (VsAt 1 0 w (some (ad rb 0)) y.ns (boolF B)):=hB
 have hsz:((w.alloc (.cells #[.int .i64 (g:Int),.slice (some (ad rb 0)) y.ns cap,.bool sh] 169)).alloc (.cells (vVw y b1 b2 b3 b4 b5 oa no oc pa np pc) 114)).heap.size=w.heap.size+1+1:=by simp
 clear h hB
 go_enter Tryz.func200,Tryz.ntmps200
 go_wp2_with fail
 generalize (w.alloc (.cells #[.int .i64 (g:Int),.slice (some (ad rb 0)) y.ns cap,.bool sh] 169)).alloc (.cells (vVw y b1 b2 b3 b4 b5 oa no oc pa np pc) 114)=W at *
 refine(clone123 rb 0 y.ns cap B W hns (HB0.out.mono nr S0.out.1 nr)).mono ?_
 rintro e w1 ⟨v,rfl,hv,hb1⟩
 obtain⟨va,nc,rfl⟩:=hv.val
 obtain⟨nb,rfl,hnb,hnl⟩:=hv.addr (by omega)
 rw[hsz] at hv hnb
 have S1:Hid (Below w.heap.size w w1/\Box w1 w.heap.size 169 #[.int .i64 (g:Int),.slice (some (ad rb 0)) y.ns cap,.bool sh]/\Box w1 (w.heap.size+1) 114 (vVw y b1 b2 b3 b4 b5 oa no oc pa np pc)/\VOwn (w.heap.size+1+1) 4 1 w1 (.slice (some (ad nb 0)) y.ns nc) y.ns (boolF B)):=⟨S0.out.1.trans (hb1.mono S0.out.1.size),S0.out.2.1.mono hb1 nr,S0.out.2.2.mono hb1 nr,hv⟩
 have x1:=S1.out.2.1.cel 1
 have g1:=S1.out.2.1.free 1
 clear S0 hb1 hv
 go_wp2_with fail
 have S2:Hid (Below w.heap.size w (w1.setCell (ad w.heap.size 1) (.slice (some (ad nb 0)) y.ns nc))/\Box (w1.setCell (ad w.heap.size 1) (.slice (some (ad nb 0)) y.ns nc)) w.heap.size 169 #[.int .i64 (g:Int),.slice (some (ad nb 0)) y.ns nc,.bool sh]/\Box (w1.setCell (ad w.heap.size 1) (.slice (some (ad nb 0)) y.ns nc)) (w.heap.size+1) 114 (vVw y b1 b2 b3 b4 b5 oa no oc pa np pc)/\VOwn (w.heap.size+1+1) 4 1 (w1.setCell (ad w.heap.size 1) (.slice (some (ad nb 0)) y.ns nc)) (.slice (some (ad nb 0)) y.ns nc) y.ns (boolF B)):=⟨S1.out.1.setCell nr _,S1.out.2.1.set 1 _,S1.out.2.2.1.other (by simp) _,S1.out.2.2.2.set S1.out.2.1 (by decide) 1 _⟩
 generalize w1.setCell (ad w.heap.size 1) (.slice (some (ad nb 0)) y.ns nc)=W2 at *
 clear x1 g1 S1
 go_loopw [13] (fun i wr=>∃q:Nat,q<=y.ns/\i=.int .i64 (q:Int)/\Hid (Below w.heap.size w wr/\Box wr w.heap.size 169 #[.int .i64 (g:Int),.slice (some (ad nb 0)) y.ns nc,.bool sh]/\Box wr (w.heap.size+1) 114 (vVw y b1 b2 b3 b4 b5 oa no oc pa np pc)/\VOwn (w.heap.size+1+1) 4 1 wr (.slice (some (ad nb 0)) y.ns nc) y.ns (boolF (fun j=>if j<q then onB B (fun k=>O (y.S k).toNat) j else B j)))) (fun i _=>y.ns-(intOf i).toNat)
 case atStart=>exact⟨0,Nat.zero_le _,rfl,S2.out.1,S2.out.2.1,S2.out.2.2.1,S2.out.2.2.2.congr fun i _ j _=>by simp⟩
 case round=>
  clear S2
  obtain⟨q,hq,rfl,S⟩:=hrel
  by_cases hlt:q<y.ns
  ·
   have hq0:(0:Int)<=(q:Int):=by omega
   have hqn:(q:Int)<(y.ns:Int):=by omega
   have x1:=S.out.2.1.cel 1
   have c0:wr.cell? (ad nb q)=some (.bool (B q)):=by
    have :=S.out.2.2.2.cell (i:=q) (j:=0) hlt (by omega)
    rw[Nat.mul_one,Nat.add_zero] at this
    rw[this]
    simp
   have g0:wr.frozen? (ad nb q)=false:=S.out.2.2.2.free q
   obtain⟨v0,v1,v2,v3,v4,v5,v6⟩:=S.out.2.2.1.c7
   have zn:nb<wr.heap.size:=(S.out.2.2.2.lt rfl).2
   have zh:w.heap.size+1<wr.heap.size:=S.out.2.2.1.lt
   cases hBq:B q with
   |true=>
    rw[hBq] at c0
    go_wp2_with fail
    refine wp_region_held_drew (S:=(fun w':World=>w'.cell? (ad w.heap.size 1)=some (.slice (some (ad nb 0)) y.ns nc)/\w'.cell? (ad nb q)=some (.bool true))) (by kernel_rfl) ?_ (fun hHeld=>?_)
    ·
     exact⟨x1,c0⟩
    refine take_lit (i:=0) (v:=?vr1x0) rfl (by kernel_rfl) (by kernel_rfl) (by kernel_rfl) (fun _ _ _ h=>h) (Or.inl ⟨by rfl,?hyr1x0⟩) (by assumption) ?restr1x0
    case hyr1x0=>(intro wq hSw;(try dsimp only at hSw);go_simp;try with_reducible rfl)
    simp only[Act.put,List.setIfInBounds_toArray,List.set_cons_zero,List.set_cons_succ]
    refine take_lit (i:=1) (v:=?vr1x1) rfl (by kernel_rfl) (by kernel_rfl) (by kernel_rfl) (fun _ _ _ h=>h) (Or.inl ⟨by rfl,?hyr1x1⟩) (by assumption) ?restr1x1
    case hyr1x1=>(intro wq hSw;(try dsimp only at hSw);go_simp;try with_reducible rfl)
    simp only[Act.put,List.setIfInBounds_toArray,List.set_cons_zero,List.set_cons_succ]
    refine take_lit (i:=2) (v:=?vr1x2) rfl (by kernel_rfl) (by kernel_rfl) (by kernel_rfl) (fun _ _ _ h=>h) (Or.inl ⟨by rfl,?hyr1x2⟩) (by assumption) ?restr1x2
    case hyr1x2=>(intro wq hSw;(try dsimp only at hSw);go_simp;try with_reducible rfl)
    simp only[Act.put,List.setIfInBounds_toArray,List.set_cons_zero,List.set_cons_succ]
    refine take_lit (i:=3) (v:=?vr1x3) rfl (by kernel_rfl) (by kernel_rfl) (by kernel_rfl) (fun _ _ _ h=>h) (Or.inl ⟨by rfl,?hyr1x3⟩) (by assumption) ?restr1x3
    case hyr1x3=>(intro wq hSw;(try dsimp only at hSw);go_simp;try with_reducible rfl)
    simp only[Act.put,List.setIfInBounds_toArray,List.set_cons_zero,List.set_cons_succ]
    refine take_lit (i:=4) (v:=?vr1x4) rfl (by kernel_rfl) (by kernel_rfl) (by kernel_rfl) (fun _ _ _ h=>h) (Or.inl ⟨by rfl,?hyr1x4⟩) (by assumption) ?restr1x4
    case hyr1x4=>(intro wq hSw;(try dsimp only at hSw);go_simp;try with_reducible rfl)
    simp only[Act.put,List.setIfInBounds_toArray,List.set_cons_zero,List.set_cons_succ]
    refine take_lit (i:=5) (v:=?vr1x5) rfl (by kernel_rfl) (by kernel_rfl) (by kernel_rfl) (fun _ _ _ h=>h) (Or.inl ⟨by rfl,?hyr1x5⟩) (by assumption) ?restr1x5
    case hyr1x5=>(intro wq hSw;(try dsimp only at hSw);go_simp;try with_reducible rfl)
    simp only[Act.put,List.setIfInBounds_toArray,List.set_cons_zero,List.set_cons_succ]
    refine take_lit (i:=6) (v:=?vr1x6) rfl (by kernel_rfl) (by kernel_rfl) (by kernel_rfl) (fun _ _ _ h=>h) (Or.inl ⟨by rfl,?hyr1x6⟩) (by assumption) ?restr1x6
    case hyr1x6=>(intro wq hSw;(try dsimp only at hSw);go_simp;try with_reducible rfl)
    simp only[Act.put,List.setIfInBounds_toArray,List.set_cons_zero,List.set_cons_succ]
    refine take_lit (i:=7) (v:=?vr1x7) rfl (by kernel_rfl) (by kernel_rfl) (by kernel_rfl) (fun _ _ _ h=>h) (Or.inl ⟨by rfl,?hyr1x7⟩) (by assumption) ?restr1x7
    case hyr1x7=>(intro wq hSw;(try dsimp only at hSw);go_simp;try with_reducible rfl)
    simp only[Act.put,List.setIfInBounds_toArray,List.set_cons_zero,List.set_cons_succ]
    refine take_lit (i:=8) (v:=?vr1x8) rfl (by kernel_rfl) (by kernel_rfl) (by kernel_rfl) (fun _ _ _ h=>h) (Or.inl ⟨by rfl,?hyr1x8⟩) (by assumption) ?restr1x8
    case hyr1x8=>(intro wq hSw;(try dsimp only at hSw);go_simp;try with_reducible rfl)
    simp only[Act.put,List.setIfInBounds_toArray,List.set_cons_zero,List.set_cons_succ]
    refine take_lit (i:=9) (v:=undef) rfl (by kernel_rfl) (by kernel_rfl) (by kernel_rfl) (fun _ _ _ h=>h) (Or.inr ⟨by kernel_rfl,rfl⟩) (by assumption) ?_
    simp only[Act.put,List.setIfInBounds_toArray,List.set_cons_zero,List.set_cons_succ]
    refine take_lit (i:=10) (v:=undef) rfl (by kernel_rfl) (by kernel_rfl) (by kernel_rfl) (fun _ _ _ h=>h) (Or.inr ⟨by kernel_rfl,rfl⟩) (by assumption) ?_
    simp only[Act.put,List.setIfInBounds_toArray,List.set_cons_zero,List.set_cons_succ]
    refine take_lit (i:=11) (v:=undef) rfl (by kernel_rfl) (by kernel_rfl) (by kernel_rfl) (fun _ _ _ h=>h) (Or.inr ⟨by kernel_rfl,rfl⟩) (by assumption) ?_
    simp only[Act.put,List.setIfInBounds_toArray,List.set_cons_zero,List.set_cons_succ]
    refine take_lit (i:=12) (v:=?vr1x12) rfl (by kernel_rfl) (by kernel_rfl) (by kernel_rfl) (fun _ _ _ h=>h) (Or.inl ⟨by rfl,?hyr1x12⟩) (by assumption) ?restr1x12
    case hyr1x12=>(intro wq hSw;(try dsimp only at hSw);go_simp;try with_reducible rfl)
    simp only[Act.put,List.setIfInBounds_toArray,List.set_cons_zero,List.set_cons_succ]
    refine take_lit (i:=13) (v:=?vr1x13) rfl (by kernel_rfl) (by kernel_rfl) (by kernel_rfl) (fun _ _ _ h=>h) (Or.inl ⟨by rfl,?hyr1x13⟩) (by assumption) ?restr1x13
    case hyr1x13=>(intro wq hSw;(try dsimp only at hSw);go_simp;try with_reducible rfl)
    simp only[Act.put,List.setIfInBounds_toArray,List.set_cons_zero,List.set_cons_succ]
    refine ready_lit (i:=14) (by kernel_rfl) rfl (fun K hK=>?_)
    go_simp
    refine hK.out _ _ ?_ (fun hHeld14=>?_)
    ·
     exact⟨(S.out.2.1.drew.other (p:=(ad nb q)) (by show w.heap.size≠nb;omega) _).cell 1,World.cell?_setCell_same' _ _ _ (by rw[c0];rfl)⟩
    clear hK K
    refine wpAnyH_done (by kernel_rfl) ?_ _
    have S3:Hid (Below w.heap.size w (wr.drew.setCell (ad nb q) (.bool true))/\Box (wr.drew.setCell (ad nb q) (.bool true)) w.heap.size 169 #[.int .i64 (g:Int),.slice (some (ad nb 0)) y.ns nc,.bool sh]/\Box (wr.drew.setCell (ad nb q) (.bool true)) (w.heap.size+1) 114 (vVw y b1 b2 b3 b4 b5 oa no oc pa np pc)/\VOwn (w.heap.size+1+1) 4 1 (wr.drew.setCell (ad nb q) (.bool true)) (.slice (some (ad nb 0)) y.ns nc) y.ns (boolF (fun j=>if j<(q+1) then onB B (fun k=>O (y.S k).toNat) j else B j))):=⟨S.out.1.drew.setCell (by show w.heap.size<=nb;omega) _,S.out.2.1.drew.other (by show w.heap.size≠nb;omega) _,S.out.2.2.1.drew.other (by show w.heap.size+1≠nb;omega) _,used_step (w:=wr.drew) (q:=q) S.out.2.2.2 hlt (by simp[onB,hBq])⟩
    go_wp2_with fail
    go_roundw
    case rel=>exact⟨q+1,by omega,by go_num,S3⟩
    case measure=>simp[intOf];omega
   |false=>
    rw[hBq] at c0
    go_wp2_with fail
    refine wp_region_held_drew (S:=(fun w':World=>w'.cell? (ad w.heap.size 1)=some (.slice (some (ad nb 0)) y.ns nc)/\w'.cell? (ad (w.heap.size+1) 0)=some (.slice (some (ad b1 0)) y.ns y.ns)/\w'.cell? (ad (w.heap.size+1) 1)=some (.slice (some (ad b2 0)) y.nl y.nl)/\w'.cell? (ad (w.heap.size+1) 2)=some (.slice (some (ad b3 0)) y.nf y.nf)/\w'.cell? (ad (w.heap.size+1) 3)=some (.slice (some (ad b4 0)) y.no y.no)/\w'.cell? (ad (w.heap.size+1) 4)=some (.slice (some (ad b5 0)) y.nm y.nm)/\w'.cell? (ad (w.heap.size+1) 5)=some (.slice oa no oc)/\w'.cell? (ad (w.heap.size+1) 6)=some (.slice pa np pc))) (by kernel_rfl) ?_ (fun hHeld=>?_)
    ·
     exact⟨x1,v0,v1,v2,v3,v4,v5,v6⟩
    refine take_lit (i:=0) (v:=?vr2x0) rfl (by kernel_rfl) (by kernel_rfl) (by kernel_rfl) (fun _ _ _ h=>h) (Or.inl ⟨by rfl,?hyr2x0⟩) (by assumption) ?restr2x0
    case hyr2x0=>(intro wq hSw;(try dsimp only at hSw);go_simp;try with_reducible rfl)
    simp only[Act.put,List.setIfInBounds_toArray,List.set_cons_zero,List.set_cons_succ]
    refine take_lit (i:=1) (v:=?vr2x1) rfl (by kernel_rfl) (by kernel_rfl) (by kernel_rfl) (fun _ _ _ h=>h) (Or.inl ⟨by rfl,?hyr2x1⟩) (by assumption) ?restr2x1
    case hyr2x1=>(intro wq hSw;(try dsimp only at hSw);go_simp;try with_reducible rfl)
    simp only[Act.put,List.setIfInBounds_toArray,List.set_cons_zero,List.set_cons_succ]
    refine take_lit (i:=2) (v:=?vr2x2) rfl (by kernel_rfl) (by kernel_rfl) (by kernel_rfl) (fun _ _ _ h=>h) (Or.inl ⟨by rfl,?hyr2x2⟩) (by assumption) ?restr2x2
    case hyr2x2=>(intro wq hSw;(try dsimp only at hSw);go_simp;try with_reducible rfl)
    simp only[Act.put,List.setIfInBounds_toArray,List.set_cons_zero,List.set_cons_succ]
    refine take_lit (i:=3) (v:=?vr2x3) rfl (by kernel_rfl) (by kernel_rfl) (by kernel_rfl) (fun _ _ _ h=>h) (Or.inl ⟨by rfl,?hyr2x3⟩) (by assumption) ?restr2x3
    case hyr2x3=>(intro wq hSw;(try dsimp only at hSw);go_simp;try with_reducible rfl)
    simp only[Act.put,List.setIfInBounds_toArray,List.set_cons_zero,List.set_cons_succ]
    refine take_lit (i:=4) (v:=?vr2x4) rfl (by kernel_rfl) (by kernel_rfl) (by kernel_rfl) (fun _ _ _ h=>h) (Or.inl ⟨by rfl,?hyr2x4⟩) (by assumption) ?restr2x4
    case hyr2x4=>(intro wq hSw;(try dsimp only at hSw);go_simp;try with_reducible rfl)
    simp only[Act.put,List.setIfInBounds_toArray,List.set_cons_zero,List.set_cons_succ]
    refine take_lit (i:=5) (v:=?vr2x5) rfl (by kernel_rfl) (by kernel_rfl) (by kernel_rfl) (fun _ _ _ h=>h) (Or.inl ⟨by rfl,?hyr2x5⟩) (by assumption) ?restr2x5
    case hyr2x5=>(intro wq hSw;(try dsimp only at hSw);go_simp;try with_reducible rfl)
    simp only[Act.put,List.setIfInBounds_toArray,List.set_cons_zero,List.set_cons_succ]
    refine take_lit (i:=6) (v:=?vr2x6) rfl (by kernel_rfl) (by kernel_rfl) (by kernel_rfl) (fun _ _ _ h=>h) (Or.inl ⟨by rfl,?hyr2x6⟩) (by assumption) ?restr2x6
    case hyr2x6=>(intro wq hSw;(try dsimp only at hSw);go_simp;try with_reducible rfl)
    simp only[Act.put,List.setIfInBounds_toArray,List.set_cons_zero,List.set_cons_succ]
    refine ready_lit (i:=7) (by kernel_rfl) rfl (fun K hK=>?_)
    go_simp
    refine hK.out _ _ ?_ (fun hHeld7=>?_)
    ·
     exact hHeld
    clear hK K
    refine take_lit (i:=8) (v:=?vr2x8) rfl (by kernel_rfl) (by kernel_rfl) (by kernel_rfl) (fun _ _ _ h=>h) (Or.inl ⟨by rfl,?hyr2x8⟩) (by assumption) ?restr2x8
    case hyr2x8=>(intro wq hSw;(try dsimp only at hSw);go_simp;try with_reducible rfl)
    simp only[Act.put,List.setIfInBounds_toArray,List.set_cons_zero,List.set_cons_succ]
    refine take_lit (i:=9) (v:=?vr2x9) rfl (by kernel_rfl) (by kernel_rfl) (by kernel_rfl) (fun _ _ _ h=>h) (Or.inl ⟨by rfl,?hyr2x9⟩) (by assumption) ?restr2x9
    case hyr2x9=>(intro wq hSw;(try dsimp only at hSw);go_simp;try with_reducible rfl)
    simp only[Act.put,List.setIfInBounds_toArray,List.set_cons_zero,List.set_cons_succ]
    refine take_lit (i:=10) (v:=?vr2x10) rfl (by kernel_rfl) (by kernel_rfl) (by kernel_rfl) (fun _ _ _ h=>h) (Or.inl ⟨by rfl,?hyr2x10⟩) (by assumption) ?restr2x10
    case hyr2x10=>(intro wq hSw;(try dsimp only at hSw);go_simp;try with_reducible rfl)
    simp only[Act.put,List.setIfInBounds_toArray,List.set_cons_zero,List.set_cons_succ]
    refine ready_lit (i:=11) (by kernel_rfl) rfl (fun K hK=>?_)
    go_simp
    go_at_call 198
    refine(filled197 y b1 b2 b3 b4 b5 oa no oc O pa np pc P q _ hlt (H.out.mono S.out.1.drew nr)).mono ?_
    rintro e w3 ⟨rfl,hb3⟩
    have S4:Hid (Below w.heap.size w w3/\Box w3 w.heap.size 169 #[.int .i64 (g:Int),.slice (some (ad nb 0)) y.ns nc,.bool sh]/\Box w3 (w.heap.size+1) 114 (vVw y b1 b2 b3 b4 b5 oa no oc pa np pc)/\VOwn (w.heap.size+1+1) 4 1 w3 (.slice (some (ad nb 0)) y.ns nc) y.ns (boolF (fun j=>if j<q then onB B (fun k=>O (y.S k).toNat) j else B j))):=⟨S.out.1.drew.trans (hb3.mono S.out.1.drew.size),S.out.2.1.drew.mono hb3 nr,S.out.2.2.1.drew.mono hb3 nr,VOwn.mono (w:=wr.drew) S.out.2.2.2 nr hb3 nr⟩
    have k2:w3.cell? (ad nb q)=some (.bool false):=(cell_keep hb3 zn c0)
    have k3:w3.frozen? (ad nb q)=false:=S4.out.2.2.2.free q
    go_wp2_with fail
    refine hK.out _ _ ?_ (fun hHeld11=>?_)
    ·
     exact⟨S4.out.2.1.cell 1,S4.out.2.2.1.cell 0,S4.out.2.2.1.cell 1,S4.out.2.2.1.cell 2,S4.out.2.2.1.cell 3,S4.out.2.2.1.cell 4,S4.out.2.2.1.cell 5,S4.out.2.2.1.cell 6⟩
    clear hK K
    refine take_lit (i:=12) (v:=?vr2x12) rfl (by kernel_rfl) (by kernel_rfl) (by kernel_rfl) (fun _ _ _ h=>h) (Or.inl ⟨by rfl,?hyr2x12⟩) (by assumption) ?restr2x12
    case hyr2x12=>(intro wq hSw;(try dsimp only at hSw);go_simp;try with_reducible rfl)
    simp only[Act.put,List.setIfInBounds_toArray,List.set_cons_zero,List.set_cons_succ]
    refine take_lit (i:=13) (v:=?vr2x13) rfl (by kernel_rfl) (by kernel_rfl) (by kernel_rfl) (fun _ _ _ h=>h) (Or.inl ⟨by rfl,?hyr2x13⟩) (by assumption) ?restr2x13
    case hyr2x13=>(intro wq hSw;(try dsimp only at hSw);go_simp;try with_reducible rfl)
    simp only[Act.put,List.setIfInBounds_toArray,List.set_cons_zero,List.set_cons_succ]
    refine ready_lit (i:=14) (by kernel_rfl) rfl (fun K hK=>?_)
    go_simp
    refine hK.out _ _ ?_ (fun hHeld14=>?_)
    ·
     exact⟨(S4.out.2.1.other (p:=(ad nb q)) (by show w.heap.size≠nb;omega) _).cell 1,(S4.out.2.2.1.other (p:=(ad nb q)) (by show w.heap.size+1≠nb;omega) _).cell 0,(S4.out.2.2.1.other (p:=(ad nb q)) (by show w.heap.size+1≠nb;omega) _).cell 1,(S4.out.2.2.1.other (p:=(ad nb q)) (by show w.heap.size+1≠nb;omega) _).cell 2,(S4.out.2.2.1.other (p:=(ad nb q)) (by show w.heap.size+1≠nb;omega) _).cell 3,(S4.out.2.2.1.other (p:=(ad nb q)) (by show w.heap.size+1≠nb;omega) _).cell 4,(S4.out.2.2.1.other (p:=(ad nb q)) (by show w.heap.size+1≠nb;omega) _).cell 5,(S4.out.2.2.1.other (p:=(ad nb q)) (by show w.heap.size+1≠nb;omega) _).cell 6⟩
    clear hK K
    refine wpAnyH_done (by kernel_rfl) ?_ _
    have S5:Hid (Below w.heap.size w (w3.setCell (ad nb q) (.bool (O (y.S q).toNat)))/\Box (w3.setCell (ad nb q) (.bool (O (y.S q).toNat))) w.heap.size 169 #[.int .i64 (g:Int),.slice (some (ad nb 0)) y.ns nc,.bool sh]/\Box (w3.setCell (ad nb q) (.bool (O (y.S q).toNat))) (w.heap.size+1) 114 (vVw y b1 b2 b3 b4 b5 oa no oc pa np pc)/\VOwn (w.heap.size+1+1) 4 1 (w3.setCell (ad nb q) (.bool (O (y.S q).toNat))) (.slice (some (ad nb 0)) y.ns nc) y.ns (boolF (fun j=>if j<(q+1) then onB B (fun k=>O (y.S k).toNat) j else B j))):=⟨S4.out.1.setCell (by show w.heap.size<=nb;omega) _,S4.out.2.1.other (by show w.heap.size≠nb;omega) _,S4.out.2.2.1.other (by show w.heap.size+1≠nb;omega) _,used_step (q:=q) S4.out.2.2.2 hlt (by simp[onB,hBq])⟩
    go_wp2_with fail
    go_roundw
    case rel=>exact⟨q+1,by omega,by go_num,S5⟩
    case measure=>simp[intOf];omega
  ·
   obtain rfl:q=y.ns:=by omega
   obtain⟨OO,HOO⟩:∃OO,Hid ((fun k=>O (y.S k).toNat)=OO):=⟨_,rfl⟩
   obtain⟨BB,HBB⟩:∃BB,Hid (onB B OO=BB):=⟨_,rfl⟩
   have S6:Hid (Below w.heap.size w wr/\Box wr w.heap.size 169 #[.int .i64 (g:Int),.slice (some (ad nb 0)) y.ns nc,.bool sh]/\Box wr (w.heap.size+1) 114 (vVw y b1 b2 b3 b4 b5 oa no oc pa np pc)/\VOwn (w.heap.size+1+1) 4 1 wr (.slice (some (ad nb 0)) y.ns nc) y.ns (boolF BB)):=⟨S.out.1,S.out.2.1,S.out.2.2.1,S.out.2.2.2.congr fun i hi j _=>by rw[<-HBB.out,<-HOO.out];simp[hi]⟩
   have HUS:Hid (useS ⟨y.ns,fun k=>O (y.S k).toNat,prvB y O P⟩ g B sh=if passN y.ns BB OO y.ns g=y.ns then .idle else .used (passN y.ns BB OO y.ns g) BB sh):=by
    show useS _ g B sh=_
    rw[useS,HOO.out]
    simp only[HBB.out]
   clear S
   go_wp2_with fail
   go_loopw [] (fun wr=>∃q k:Nat,q<=y.ns/\Hid (passN y.ns BB OO y.ns g=passN y.ns BB OO k q/\y.ns<=q+k)/\Hid (Below w.heap.size w wr/\Box wr w.heap.size 169 #[.int .i64 (q:Int),.slice (some (ad nb 0)) y.ns nc,.bool sh]/\Box wr (w.heap.size+1) 114 (vVw y b1 b2 b3 b4 b5 oa no oc pa np pc)/\VOwn (w.heap.size+1+1) 4 1 wr (.slice (some (ad nb 0)) y.ns nc) y.ns (boolF BB))) (fun wr=>y.ns-goneU w.heap.size wr)
   case atStart=>exact⟨g,y.ns,by omega,⟨rfl,by omega⟩,S6⟩
   case round=>
    clear S6
    obtain⟨q,k,hq,HP,S⟩:=hrel
    have HG0:Hid (goneU w.heap.size wr=q):=by
     rw[Hid,goneU,S.out.2.1.cell 0]
     simp[intOf]
    obtain⟨x0,x1,x2⟩:=S.out.2.1.c3
    by_cases hlt:q<y.ns
    ·
     have hqn:(q:Int)<(y.ns:Int):=by omega
     obtain⟨v0,v1,v2,v3,v4,v5,v6⟩:=S.out.2.2.1.c7
     go_wp2_with fail
     refine(behind200 y b1 b2 b3 b4 b5 oa no oc O pa np pc P q nb nc BB sh wr hlt (H.out.mono S.out.1 nr) (S.out.2.2.2.vs.le (Nat.zero_le _))).mono ?_
     rintro e w3 ⟨he,hb3⟩
     rw[HOO.out] at he
     have S4:Hid (Below w.heap.size w w3/\Box w3 w.heap.size 169 #[.int .i64 (q:Int),.slice (some (ad nb 0)) y.ns nc,.bool sh]/\Box w3 (w.heap.size+1) 114 (vVw y b1 b2 b3 b4 b5 oa no oc pa np pc)/\VOwn (w.heap.size+1+1) 4 1 w3 (.slice (some (ad nb 0)) y.ns nc) y.ns (boolF BB)):=⟨S.out.1.trans (hb3.mono S.out.1.size),S.out.2.1.mono hb3 nr,S.out.2.2.1.mono hb3 nr,S.out.2.2.2.mono nr hb3 nr⟩
     clear hb3 x0 x1 x2 v0 v1 v2 v3 v4 v5 v6 S
     obtain⟨x0,x1,x2⟩:=S4.out.2.1.c3
     have g0:=S4.out.2.1.free 0
     cases hst:stopB y.ns BB OO q with
     |true=>
      rw[hst] at he
      subst he
      have HST:Hid (passN y.ns BB OO y.ns g=q):=HP.out.1.trans (passN_stop k hst)
      have HF:Hid (SlR w y.ns (useS ⟨y.ns,fun k=>O (y.S k).toNat,prvB y O P⟩ g B sh) (.returned (.iface 169 (.agg #[.int .i64 (q:Int),.slice (some (ad nb 0)) y.ns nc,.bool sh]))) w3):=by
       rw[Hid,HUS.out,HST.out,if_neg (by omega)]
       obtain⟨cur,hcur⟩:=S4.out.2.2.2.box (g:=nb) rfl
       exact⟨_,rfl,⟨nb,nc,cur,rfl,hcur,S4.out.2.2.2.vs.le (Nat.zero_le _)⟩,S4.out.1⟩
      have z:((q:Int)==(y.ns:Int))=false:=by simp;omega
      go_wp2_with fail
      go_ret
      exact HF.out
     |false=>
      rw[hst] at he
      subst he
      obtain⟨k',rfl⟩:∃k',k=k'+1:=⟨k-1,by have :=HP.out.2;omega⟩
      have HP2:Hid (passN y.ns BB OO y.ns g=passN y.ns BB OO k' (q+1)/\y.ns<=q+1+k'):=⟨HP.out.1.trans (passN_step k' hst),by have :=HP.out.2;omega⟩
      have S5:Hid (Below w.heap.size w (w3.setCell (ad w.heap.size 0) (.int .i64 ((q:Int)+1)))/\Box (w3.setCell (ad w.heap.size 0) (.int .i64 ((q:Int)+1))) w.heap.size 169 #[.int .i64 ((q+1:Nat):Int),.slice (some (ad nb 0)) y.ns nc,.bool sh]/\Box (w3.setCell (ad w.heap.size 0) (.int .i64 ((q:Int)+1))) (w.heap.size+1) 114 (vVw y b1 b2 b3 b4 b5 oa no oc pa np pc)/\VOwn (w.heap.size+1+1) 4 1 (w3.setCell (ad w.heap.size 0) (.int .i64 ((q:Int)+1))) (.slice (some (ad nb 0)) y.ns nc) y.ns (boolF BB)):=⟨S4.out.1.setCell nr _,by have :=S4.out.2.1.set 0 (.int .i64 ((q:Int)+1));simpa using this,S4.out.2.2.1.other (by simp) _,S4.out.2.2.2.set S4.out.2.1 (by decide) 0 _⟩
      have HG1:Hid (goneU w.heap.size (w3.setCell (ad w.heap.size 0) (.int .i64 ((q:Int)+1)))=q+1):=by
       rw[Hid,goneU,S5.out.2.1.cell 0]
       simp[intOf]
      have hq1:(-9223372036854775808:Int)<=(q:Int)+1/\(q:Int)+1<=9223372036854775807:=by omega
      go_wp2_with fail
      go_roundw
      case rel=>exact⟨q+1,k',by omega,HP2,S5⟩
      case measure=>rw[HG1.out,HG0.out];omega
    ·
     obtain rfl:q=y.ns:=by omega
     have HST:Hid (passN y.ns BB OO y.ns g=y.ns):=HP.out.1.trans (passN_end _ _ _ k)
     have HF:Hid (SlR w y.ns (useS ⟨y.ns,fun k=>O (y.S k).toNat,prvB y O P⟩ g B sh) (.returned (.iface 161 (.agg #[]))) wr):=by
      rw[Hid,HUS.out,HST.out,if_pos rfl]
      exact⟨_,rfl,rfl,S.out.1⟩
     have z:((y.ns:Int)==(y.ns:Int))=true:=by simp
     go_wp2_with fail
     go_ret
     exact HF.out
end Go.Proofs.YtkeilejbelblcaaGreatDoor
