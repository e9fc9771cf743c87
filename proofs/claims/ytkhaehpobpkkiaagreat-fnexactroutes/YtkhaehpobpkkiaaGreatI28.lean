import Derived.TacticsInMore
import Derived.OwnWalkIn
import Derived.Shelf.Abstract
import Derived.RangeFuncBound
import Derived.Test.YtkhaehpobpkkiaaGreatIh
namespace Go.Proofs.YtkhaehpobpkkiaaGreat
open Go.RowKit Go.Shelf
attribute [local go_sem] Oper.semAt_some
set_option maxRecDepth 100000 in
set_option maxHeartbeats 8000000 in
theorem routes9_ok (pa:Option Addr)(pc:Nat)(ja:Option Addr)(jc:Nat)(sa:Option Addr)(sc:Nat)(v:Ev)(ok:v.Ok)(w:World)(hz:sigF v.n v.P v.m v.J v.k v.S=(0,0))(hpc:v.n≤pc)(hpm:pc≤maxLen)(hjc:v.m≤jc)(hjm:jc≤maxLen)(hsc:v.k≤sc)(hsm:sc≤maxLen)
 (hP:PsAt 0 w pa v.n v.P) (hJ:JsAt 0 w ja v.m v.J) (hps:∀ i,i<v.n→(v.P i).nm.size≤maxLen) (hjs:∀ i,i<v.m→(v.J i).ne≤1048576∧(v.J i).nm.size≤maxLen)
 (hS:PsAt 0 w sa v.k v.S) (hss:∀ i,i<v.k→(v.S i).nm.size≤maxLen):
 Calls Tryz.prog 9 #[.agg #[.slice pa v.n pc,.slice ja v.m jc],.slice sa v.k sc,.int .i64 v.ov] w fun r w'=>∃ out,r=.returned out∧OutP w.heap.size w' out (routesF v)∧Below w.heap.size w w':=by
 have hn1:=ok.n1
 have hm1:=ok.m1
 have hk1:=ok.k1
 have h2:inB v.ov 0 100000=true:=by
  have a:=ok.o0
  have b:=ok.o1
  simp [inB,a,b]
 have HN0:Hid (NetIn w v pa ja sa):=⟨hP,hJ,hS⟩
 have OK:Hid v.Ok:=ok
 have HCS:Hid (∀ W,Below w.heap.size w W→Calls Tryz.prog 27 #[.agg #[.slice pa v.n pc,.slice ja v.m jc],.slice sa v.k sc] W fun r w'=>r=.returned (.agg #[.int .i64 0,.int .i64 0])∧Below W.heap.size W w'):=fun W hW=>by
  have:=impl14 pa v.n pc v.P ja v.m jc v.J sa v.k sc v.S W (by omega) (by omega) hpc hpm hjc hjm (hP.mono lr hW lr) (hJ.mono lr hW lr) hps hjs (by omega) hsc hsm (hS.mono lr hW lr) hss
  rwa [hz] at this
 clear hP hJ hS hps hjs hss hz ok hpc hpm hjc hjm hsc hsm
 refine callsIn_wide.1 (callsIn_of_wp_marks (F:=Fence.wide) (n:=3) Tryz.func9 rfl trivial ((wpIn_wide (n:=3)).2 ?_))
 simp only [Tryz.ntmps9,List.size_toArray,List.length_cons,List.length_nil,Nat.reduceAdd,Nat.reduceSub,Array.replicate_succ,Array.replicate_zero,List.push_toArray,List.append_toArray,List.nil_append,List.cons_append]
 go_wp2_with fail
 have HB0:Hid (Below w.heap.size w (((w.alloc (.cells #[.slice pa v.n pc,.slice ja v.m jc] 34)).alloc (.cells #[.int .i64 v.ov] 3)).alloc (.cells #[.slice none 0 0] 29))∧Box (((w.alloc (.cells #[.slice pa v.n pc,.slice ja v.m jc] 34)).alloc (.cells #[.int .i64 v.ov] 3)).alloc (.cells #[.slice none 0 0] 29)) w.heap.size 34 #[.slice pa v.n pc,.slice ja v.m jc]∧Box (((w.alloc (.cells #[.slice pa v.n pc,.slice ja v.m jc] 34)).alloc (.cells #[.int .i64 v.ov] 3)).alloc (.cells #[.slice none 0 0] 29)) (w.heap.size+1) 3 #[.int .i64 v.ov]∧Box (((w.alloc (.cells #[.slice pa v.n pc,.slice ja v.m jc] 34)).alloc (.cells #[.int .i64 v.ov] 3)).alloc (.cells #[.slice none 0 0] 29)) (w.heap.size+1+1) 29 #[.slice none 0 0]):=⟨(bel2 w _ _).al _,((Box.new w 34 _).alloc _).alloc _,Box.alloc (by have:=Box.new (w.alloc (.cells #[.slice pa v.n pc,.slice ja v.m jc] 34)) 3 #[.int .i64 v.ov];rwa [World.size_alloc] at this) _,by have:=Box.new ((w.alloc (.cells #[.slice pa v.n pc,.slice ja v.m jc] 34)).alloc (.cells #[.int .i64 v.ov] 3)) 29 #[.slice none 0 0];rwa [World.size_alloc,World.size_alloc] at this⟩
 generalize (((w.alloc (.cells #[.slice pa v.n pc,.slice ja v.m jc] 34)).alloc (.cells #[.int .i64 v.ov] 3)).alloc (.cells #[.slice none 0 0] 29))=w0 at HB0 ⊢
 refine (HCS.out _ HB0.out.1).mono ?_
 rintro e w1 ⟨rfl,hb1⟩
 clear HCS
 have HB1:Hid (Below w.heap.size w w1∧Box w1 w.heap.size 34 #[.slice pa v.n pc,.slice ja v.m jc]∧Box w1 (w.heap.size+1) 3 #[.int .i64 v.ov]∧Box w1 (w.heap.size+1+1) 29 #[.slice none 0 0]):=⟨HB0.out.1.trans (hb1.mono HB0.out.1.size),HB0.out.2.1.mono hb1 lr,HB0.out.2.2.1.mono hb1 lr,HB0.out.2.2.2.mono hb1 lr⟩
 have x0:w1.cell? ⟨w.heap.size,0,none⟩=some (.slice pa v.n pc):=HB1.out.2.1.cell 0
 have x1:w1.cell? ⟨w.heap.size,1,none⟩=some (.slice ja v.m jc):=HB1.out.2.1.cell 1
 have x2:w1.cell? ⟨w.heap.size+1,0,none⟩=some (.int .i64 v.ov):=HB1.out.2.2.1.cell 0
 clear hb1 HB0
 go_wp2_with (go_at_call 28;refine (within43 v.ov 0 100000 _).mono ?_;rintro e w1 ⟨rfl,rfl⟩;rw [h2])
 refine (trackOf29 OK.out _ (HN0.out.mono HB1.out.1 lr)).mono ?_
 rintro e wB ⟨bt,rfl,hT,hbt0,hbB⟩
 clear x0 x1 x2
 have HT:Hid (TkAt wB bt v pa pc ja jc sa sc):=hT
 have HBB:Hid (Below w.heap.size w wB∧Box wB (w.heap.size+1) 3 #[.int .i64 v.ov]∧Box wB (w.heap.size+1+1) 29 #[.slice none 0 0]):=⟨HB1.out.1.trans (hbB.mono HB1.out.1.size),HB1.out.2.2.1.mono hbB lr,HB1.out.2.2.2.mono hbB lr⟩
 clear hT hbt0 hbB HB1 HN0 h2
 go_wp2_with fail
 obtain ⟨I,hI⟩:∃ I:Nat→Act→World→Prop,Hid (I=fun gk a' wr=>∃ (i:Nat) (ds:List Deferred) (D:Nat→Prop) (out:Value) (u10 u11 u12 u13 u14 u15 u16 u17 u18 u19 u20 u21 u22 u23 u24 u28 u29 u30 u31 u32 u33 u34 u35 u36 u37 u38 u39 u40 u41 u42 u43 u44 u45 u46 u47 u48 u49 u50 u51 u52 u53 u54 u55 u56 u57 u58:Value),gk=v.k-i∧i≤v.k∧a'={ tmps:=#[.agg #[.slice pa v.n pc,.slice ja v.m jc],.slice sa v.k sc,.int .i64 v.ov,.pointer (some ⟨w.heap.size,0,none⟩),undef,.pointer (some ⟨w.heap.size+1,0,none⟩),.pointer (some ⟨w.heap.size+1+1,0,none⟩),.pointer (some ⟨wB.heap.size,0,none⟩),.pointer (some ⟨wB.heap.size+1,0,none⟩),.pointer (some ⟨wB.heap.size+1+1,0,none⟩),u10,u11,u12,u13,u14,u15,u16,u17,u18,u19,u20,u21,u22,u23,u24,.slice sa v.k sc,.int .i64 (v.k:Int),.int .i64 (i:Int),u28,u29,u30,u31,u32,u33,u34,u35,u36,u37,u38,u39,u40,u41,u42,u43,u44,u45,u46,u47,u48,u49,u50,u51,u52,u53,u54,u55,u56,u57,u58],defers:=ds }∧Hid (RS v wB.heap.size bt wB i ds wr D out)):=⟨_,rfl⟩
 refine wp_loop_ghost I v.k ?_ ?_
 ·rw [hI.out]
  refine ⟨0,[],fun k=>k=wB.heap.size∨k=wB.heap.size+1∨k=wB.heap.size+1+1,.slice none 0 0,_,_,_,_,_,_,_,_,_,_,_,_,_,_,_,_,_,_,_,_,_,_,_,_,_,_,_,_,_,_,_,_,_,_,_,_,_,_,_,_,_,_,_,_,_,_,by omega,Nat.zero_le _,rfl,?_⟩
  have b1:Box (((wB.alloc (.cells #[.pointer (some ⟨bt,0,none⟩)] 72)).alloc (.cells #[.slice none 0 0] 29)).alloc (.cells #[.int .i64 0] 3)) wB.heap.size 72 #[.pointer (some ⟨bt,0,none⟩)]:=((Box.new wB 72 _).alloc _).alloc _
  have b2:Box (((wB.alloc (.cells #[.pointer (some ⟨bt,0,none⟩)] 72)).alloc (.cells #[.slice none 0 0] 29)).alloc (.cells #[.int .i64 0] 3)) (wB.heap.size+1) 29 #[.slice none 0 0]:=Box.alloc (by have:=Box.new (wB.alloc (.cells #[.pointer (some ⟨bt,0,none⟩)] 72)) 29 #[.slice none 0 0];rwa [World.size_alloc] at this) _
  have b3:Box (((wB.alloc (.cells #[.pointer (some ⟨bt,0,none⟩)] 72)).alloc (.cells #[.slice none 0 0] 29)).alloc (.cells #[.int .i64 0] 3)) (wB.heap.size+1+1) 3 #[.int .i64 0]:=by have:=Box.new ((wB.alloc (.cells #[.pointer (some ⟨bt,0,none⟩)] 72)).alloc (.cells #[.slice none 0 0] 29)) 3 #[.int .i64 0];rwa [World.size_alloc,World.size_alloc] at this
  have z3:=b3.lt
  exact ⟨(bel2 wB _ _).al _,b2,OutD.nil _ _ _,b1,b3,Nat.zero_le _,Nat.zero_le _,fun k e=>by omega,⟨.inl rfl,.inr (.inl rfl),.inr (.inr rfl)⟩,⟨[],rfl,List.nodup_nil,fun k hk=>absurd hk (List.not_mem_nil)⟩⟩
 ·intro gk a' wr hh
  rw [hI.out] at hh
  obtain ⟨i,ds,D,out,u10,u11,u12,u13,u14,u15,u16,u17,u18,u19,u20,u21,u22,u23,u24,u28,u29,u30,u31,u32,u33,u34,u35,u36,u37,u38,u39,u40,u41,u42,u43,u44,u45,u46,u47,u48,u49,u50,u51,u52,u53,u54,u55,u56,u57,u58,rfl,hi,rfl,HR⟩:=hh
  by_cases hlt:i<v.k
  ·have x7:wr.cell? ⟨wB.heap.size,0,none⟩=some (.pointer (some ⟨bt,0,none⟩)):=HR.out.t.cell 0
   have z7:=HR.out.t.lt
   have hii:(i:Int)<(v.k:Int):=by omega
   go_wp2_with (go_at_call 30;refine (walk30 bt i _).mono ?_;rintro e w5 ⟨rfl,rfl⟩)
   refine wp_rangeJ (gf:=66) (lb:=#[.pointer (some ⟨wr.heap.size+1,0,none⟩),.pointer (some ⟨wr.heap.size+1+1,0,none⟩)]) rfl (enters_of Tryz.func66 (by kernel_rfl) rfl) ?_
   intro fn
   have hs3:(((wr.alloc (.cells #[.int .i64 (i:Int)] 3)).alloc (.cells #[.pointer (some ⟨bt,0,none⟩)] 72)).alloc (.cells #[.int .i64 (i:Int)] 3)).heap.size=wr.heap.size+1+1+1:=by simp
   rw [hs3]
   generalize hlp:lpOf fn _ _ _ _ _=lp
   have HLP:Hid (lpOf fn _ _ _ _ _=lp):=hlp
   clear hlp
   have HYD:Hid (Yd v wB.heap.size wB (wr.heap.size+1+1+1+1) (i:Int) (JR wB.heap.size bt (wB.heap.size+1) (wB.heap.size+1+1) wB.heap.size wr.heap.size (wr.heap.size+1+1+1+1) (wr.heap.size+1+1+1) (i:Int) lp) (JX wB.heap.size (wr.heap.size+1+1+1+1) (wr.heap.size+1+1+1) lp)):=by
    intro m pre W DD t tt dn it sv pv lv xv hj hb ht hd hit
    obtain ⟨sa1,sc1,hv⟩:=ht.s.val
    subst hv
    obtain ⟨pa1,pc1,hv⟩:=ht.q.val
    subst hv
    obtain ⟨la1,lc1,hv⟩:=ht.l.val
    subst hv
    obtain ⟨xa1,xc1,hv⟩:=ht.x.val
    subst hv
    have hr:=hj.r
    rw [← HLP.out] at hr
    refine ⟨fn,_,_,_,run_yield hr rfl,roundIn_of_wpIn trivial ?_⟩
    simp only [lpOf]
    obtain ⟨out,bO,bD⟩:=hj.o
    have hlW:(wr.heap.size+1+1+1+1)<W.heap.size:=(Array.getElem?_eq_some_iff.1 hr).1
    gi_wp2
    have hlpr:lp.state=.ready∧lp.pending=none:=by rw [← HLP.out];exact ⟨rfl,rfl⟩
    refine ⟨_,run_beginRound (r:=lp) ((Below.heap_alloc W _ _ hlW).trans hj.r) hlpr.1,?_⟩
    obtain ⟨au,cu,hvo⟩:=bD.out.val
    subst hvo
    have kp:∀ (b:Nat) (T:TypeId) (vs:Array Value) (o:Obj) (o':Obj),Box W b T vs→Box ((W.alloc o).putObj (wr.heap.size+1+1+1+1) o') b T vs:=fun b T vs o o' hb=>(hb.alloc o).keep (World.putObj_heap_other (hj.nl hb))
    have hne:W.heap.size≠(wr.heap.size+1+1+1+1):=by omega
    have HJJ:Hid ((JR wB.heap.size bt (wB.heap.size+1) (wB.heap.size+1+1) wB.heap.size wr.heap.size (wr.heap.size+1+1+1+1) (wr.heap.size+1+1+1) (i:Int) lp) pre W DD):=hj
    have HTL:Hid (Below wB.heap.size wB W∧TlIn wB.heap.size W t (.slice sa1 t.st.length sc1) (.slice la1 t.li.length lc1) (.slice xa1 t.cr.length xc1) (.slice pa1 t.pa.length pc1)):=⟨hb,ht⟩
    have HDD:Hid (∀ k,DD k→¬TrB (.slice sa1 t.st.length sc1) (.slice pa1 t.pa.length pc1) (.slice la1 t.li.length lc1) (.slice xa1 t.cr.length xc1) k):=hd
    have HIT:Hid (ItOk v (i:Int) t tt dn it):=hit
    have HBD:Hid (Box W (wB.heap.size+1) 29 #[.slice au (routesOf pre).length cu]∧OutD (Dx DD (wB.heap.size+1) (wB.heap.size+1+1) wB.heap.size wr.heap.size (wr.heap.size+1+1+1+1) (wr.heap.size+1+1+1)) wB.heap.size W (.slice au (routesOf pre).length cu) (routesOf pre)):=⟨bO,bD⟩
    have HW2:Hid (Fr (fun k=>k=wB.heap.size+1+1∨k=wr.heap.size+1+1+1+1) W ((W.alloc (.cells #[.slice sa1 t.st.length sc1,.slice pa1 t.pa.length pc1,.slice la1 t.li.length lc1,.slice xa1 t.cr.length xc1,.int .i64 tt,.bool dn] 78)).putObj (wr.heap.size+1+1+1+1) (.loop { lp with state:=.busy }))∧((W.alloc (.cells #[.slice sa1 t.st.length sc1,.slice pa1 t.pa.length pc1,.slice la1 t.li.length lc1,.slice xa1 t.cr.length xc1,.int .i64 tt,.bool dn] 78)).putObj (wr.heap.size+1+1+1+1) (.loop { lp with state:=.busy })).heap[(wr.heap.size+1+1+1+1)]?=some (.loop { lp with state:=.busy })∧Box ((W.alloc (.cells #[.slice sa1 t.st.length sc1,.slice pa1 t.pa.length pc1,.slice la1 t.li.length lc1,.slice xa1 t.cr.length xc1,.int .i64 tt,.bool dn] 78)).putObj (wr.heap.size+1+1+1+1) (.loop { lp with state:=.busy })) (wB.heap.size+1+1) 3 #[.int .i64 (pre.length:Int)]∧Box ((W.alloc (.cells #[.slice sa1 t.st.length sc1,.slice pa1 t.pa.length pc1,.slice la1 t.li.length lc1,.slice xa1 t.cr.length xc1,.int .i64 tt,.bool dn] 78)).putObj (wr.heap.size+1+1+1+1) (.loop { lp with state:=.busy })) (wB.heap.size+1) 29 #[.slice au (routesOf pre).length cu]∧Box ((W.alloc (.cells #[.slice sa1 t.st.length sc1,.slice pa1 t.pa.length pc1,.slice la1 t.li.length lc1,.slice xa1 t.cr.length xc1,.int .i64 tt,.bool dn] 78)).putObj (wr.heap.size+1+1+1+1) (.loop { lp with state:=.busy })) wB.heap.size 72 #[.pointer (some ⟨bt,0,none⟩)]∧Box ((W.alloc (.cells #[.slice sa1 t.st.length sc1,.slice pa1 t.pa.length pc1,.slice la1 t.li.length lc1,.slice xa1 t.cr.length xc1,.int .i64 tt,.bool dn] 78)).putObj (wr.heap.size+1+1+1+1) (.loop { lp with state:=.busy })) wr.heap.size 3 #[.int .i64 (i:Int)]∧Box ((W.alloc (.cells #[.slice sa1 t.st.length sc1,.slice pa1 t.pa.length pc1,.slice la1 t.li.length lc1,.slice xa1 t.cr.length xc1,.int .i64 tt,.bool dn] 78)).putObj (wr.heap.size+1+1+1+1) (.loop { lp with state:=.busy })) W.heap.size 78 #[.slice sa1 t.st.length sc1,.slice pa1 t.pa.length pc1,.slice la1 t.li.length lc1,.slice xa1 t.cr.length xc1,.int .i64 tt,.bool dn]∧Box ((W.alloc (.cells #[.slice sa1 t.st.length sc1,.slice pa1 t.pa.length pc1,.slice la1 t.li.length lc1,.slice xa1 t.cr.length xc1,.int .i64 tt,.bool dn] 78)).putObj (wr.heap.size+1+1+1+1) (.loop { lp with state:=.busy })) (w.heap.size+1) 3 #[.int .i64 v.ov]∧Box ((W.alloc (.cells #[.slice sa1 t.st.length sc1,.slice pa1 t.pa.length pc1,.slice la1 t.li.length lc1,.slice xa1 t.cr.length xc1,.int .i64 tt,.bool dn] 78)).putObj (wr.heap.size+1+1+1+1) (.loop { lp with state:=.busy })) (w.heap.size+1+1) 29 #[.slice none 0 0]):=⟨⟨rfl,rfl,rfl,by simp,fun k hk hn=>(World.putObj_heap_other (fun e=>hn (.inr e))).trans (Below.heap_alloc W _ k hk)⟩,World.putObj_heap_same (by simp;omega),kp _ _ _ _ _ hj.c,kp _ _ _ _ _ bO,kp _ _ _ _ _ hj.t,kp _ _ _ _ _ hj.f,(Box.new W 78 _).keep (World.putObj_heap_other hne),kp _ _ _ _ _ (HBB.out.2.1.mono hb lr),kp _ _ _ _ _ (HBB.out.2.2.mono hb lr)⟩
    generalize ((W.alloc (.cells #[.slice sa1 t.st.length sc1,.slice pa1 t.pa.length pc1,.slice la1 t.li.length lc1,.slice xa1 t.cr.length xc1,.int .i64 tt,.bool dn] 78)).putObj (wr.heap.size+1+1+1+1) (.loop { lp with state:=.busy }))=W2 at HW2 ⊢
    have HLPR:Hid (lp.state=.ready∧lp.pending=none):=hlpr
    have hcm:=hj.m
    have hck:=hj.k
    have hbz:w.heap.size+1+1<wB.heap.size:=HBB.out.2.2.lt
    have z10:wB.heap.size+1+1<wr.heap.size:=HR.out.c.lt
    clear kp hne hj hb ht hd hit bO bD hr hlpr
    have y1:W2.cell? ⟨wB.heap.size+1+1,0,none⟩=some (.int .i64 (pre.length:Int)):=HW2.out.2.2.1.cell 0
    have y2:W2.cell? ⟨wB.heap.size+1,0,none⟩=some (.slice au (routesOf pre).length cu):=HW2.out.2.2.2.1.cell 0
    have y3:W2.cell? ⟨W.heap.size,5,none⟩=some (.bool dn):=HW2.out.2.2.2.2.2.2.1.cell 5
    have y4:W2.cell? ⟨w.heap.size+1+1,0,none⟩=some (.slice none 0 0):=HW2.out.2.2.2.2.2.2.2.2.cell 0
    have g1:=HW2.out.2.2.1.free 0
    have g4:=HW2.out.2.2.2.2.2.2.2.2.free 0
    have FSx:∀ (u:Value),Fr (fun k=>k=wB.heap.size+1+1∨k=wr.heap.size+1+1+1+1) W (W2.setCell ⟨wB.heap.size+1+1,0,none⟩ u):=fun u=>HW2.out.1.trans (Fr.set _ _ (.inl rfl))
    have LS:∀ (u:Value),(W2.setCell ⟨wB.heap.size+1+1,0,none⟩ u).heap[(wr.heap.size+1+1+1+1)]?=some (.loop { lp with state:=.busy }):=fun u=>(Below.heap_setCell W2 _ u _ (fun e=>HJJ.out.nl HJJ.out.c e.symm)).trans HW2.out.2.1
    have RS4:∀ (u:Value),Box (W2.setCell ⟨wB.heap.size+1+1,0,none⟩ u) (w.heap.size+1+1) 29 #[.slice none 0 0]:=fun u=>HW2.out.2.2.2.2.2.2.2.2.other (p:=⟨wB.heap.size+1+1,0,none⟩) (by show w.heap.size+1+1≠wB.heap.size+1+1;omega) u
    have HFS:Hid _:=FSx
    have HLS:Hid _:=LS
    have HRS4:Hid _:=RS4
    clear FSx LS RS4
    have hnz:wB.heap.size+1≠wB.heap.size+1+1∧wB.heap.size≠wB.heap.size+1+1∧wr.heap.size≠wB.heap.size+1+1:=by omega
    by_cases hA:20000<(pre.length:Int)+1
    ·gi_wp2
     all_goals first
      | exact HJJ.out.ret ((HFS.out _).trans (Fr.same (HRS4.out _))) ((Below.heap_setCell _ _ _ _ (show wr.heap.size+1+1+1+1≠w.heap.size+1+1 by omega)).trans (HLS.out _)) (.inl (by omega))
      | (rename_i hu _;cases hu)
      | (rename_i hu;cases hu)
    ·rcases HIT.out with ⟨hdn,hit,l1,l2,l3,l4,l5,l6,l7⟩ | ⟨hdn,hit⟩
     ·subst hdn
      subst hit
      have HLI:Hid (LiOk v t.li∧LieK t.li∧(tt=-1∨(0≤tt∧tt<v.k))):=⟨l5,l6,l7⟩
      clear l5 l6 l7
      by_cases hB:(routesOf pre).length=300
      ·have hB':((routesOf pre).length:Int)=300:=by omega
       have HB3:Hid (300<(routesOf (pre ++ [some (v.fin (i:Int) tt t (ovOf v tt))])).length):=by
        show 300<(routesOf (pre ++ [some (v.fin (i:Int) tt t (ovOf v tt))])).length
        have e:routesOf (pre ++ [some (v.fin (i:Int) tt t (ovOf v tt))])=routesOf pre ++ [v.fin (i:Int) tt t (ovOf v tt)]:=by simp [routesOf]
        rw [e,List.length_append,hB]
        simp
       gi_wp2
       exact HJJ.out.ret ((HFS.out _).trans (Fr.same (HRS4.out _))) ((Below.heap_setCell _ _ _ _ (show wr.heap.size+1+1+1+1≠w.heap.size+1+1 by omega)).trans (HLS.out _)) (.inr HB3.out)
      ·have hB':¬((routesOf pre).length:Int)=300:=by omega
       gi_wp2
       have HW3:Hid (Fr (fun k=>k=wB.heap.size+1+1∨k=wr.heap.size+1+1+1+1) W (W2.setCell ⟨wB.heap.size+1+1,0,none⟩ (.int .i64 ((pre.length:Int)+1)))∧(W2.setCell ⟨wB.heap.size+1+1,0,none⟩ (.int .i64 ((pre.length:Int)+1))).heap[(wr.heap.size+1+1+1+1)]?=some (.loop { lp with state:=.busy })∧Box (W2.setCell ⟨wB.heap.size+1+1,0,none⟩ (.int .i64 ((pre.length:Int)+1))) (wB.heap.size+1+1) 3 #[.int .i64 ((pre.length:Int)+1)]):=⟨HFS.out _,HLS.out _,HW2.out.2.2.1.set 0 _⟩
       have hlo:=HJJ.out.lt
       have zc:=(hlo _ HJJ.out.own.2.1).2
       have HB3:Hid (Box (W2.setCell ⟨wB.heap.size+1+1,0,none⟩ (.int .i64 ((pre.length:Int)+1))) wB.heap.size 72 #[.pointer (some ⟨bt,0,none⟩)]∧Box (W2.setCell ⟨wB.heap.size+1+1,0,none⟩ (.int .i64 ((pre.length:Int)+1))) wr.heap.size 3 #[.int .i64 (i:Int)]∧Box (W2.setCell ⟨wB.heap.size+1+1,0,none⟩ (.int .i64 ((pre.length:Int)+1))) W.heap.size 78 #[.slice sa1 t.st.length sc1,.slice pa1 t.pa.length pc1,.slice la1 t.li.length lc1,.slice xa1 t.cr.length xc1,.int .i64 tt,.bool true]∧Box (W2.setCell ⟨wB.heap.size+1+1,0,none⟩ (.int .i64 ((pre.length:Int)+1))) (w.heap.size+1) 3 #[.int .i64 v.ov]∧Box (W2.setCell ⟨wB.heap.size+1+1,0,none⟩ (.int .i64 ((pre.length:Int)+1))) (wB.heap.size+1) 29 #[.slice au (routesOf pre).length cu]):=⟨HW2.out.2.2.2.2.1.other (p:=⟨wB.heap.size+1+1,0,none⟩) hnz.2.1 _,HW2.out.2.2.2.2.2.1.other (p:=⟨wB.heap.size+1+1,0,none⟩) hnz.2.2 _,HW2.out.2.2.2.2.2.2.1.other (p:=⟨wB.heap.size+1+1,0,none⟩) (by show W.heap.size≠wB.heap.size+1+1;omega) _,HW2.out.2.2.2.2.2.2.2.1.other (p:=⟨wB.heap.size+1+1,0,none⟩) (by show w.heap.size+1≠wB.heap.size+1+1;omega) _,HW2.out.2.2.2.1.other (p:=⟨wB.heap.size+1+1,0,none⟩) hnz.1 _⟩
       generalize (W2.setCell ⟨wB.heap.size+1+1,0,none⟩ (.int .i64 ((pre.length:Int)+1)))=W3 at HW3 HB3 ⊢
       clear y1 y2 y3 y4 g1 g4 HFS HLS HRS4 HW2 HIT x7
       have HB0:Hid (Box W3.drew wB.heap.size 72 #[.pointer (some ⟨bt,0,none⟩)]∧Box W3.drew wr.heap.size 3 #[.int .i64 (i:Int)]∧Box W3.drew W.heap.size 78 #[.slice sa1 t.st.length sc1,.slice pa1 t.pa.length pc1,.slice la1 t.li.length lc1,.slice xa1 t.cr.length xc1,.int .i64 tt,.bool true]∧Box W3.drew (w.heap.size+1) 3 #[.int .i64 v.ov]∧Box W3.drew (wB.heap.size+1) 29 #[.slice au (routesOf pre).length cu]):=⟨(HB3.out.1).drew,(HB3.out.2.1).drew,(HB3.out.2.2.1).drew,(HB3.out.2.2.2.1).drew,(HB3.out.2.2.2.2).drew⟩
       have hs3:W.heap.size≤W3.heap.size:=HW3.out.1.size
       have HSZ:Hid (wB.heap.size≤W3.heap.size):=by show wB.heap.size≤W3.heap.size;omega
       obtain ⟨rows,hrl,how,hrs,hapt⟩:=HBD.out.2.2
       have HAPT:Hid (Apart rows∧∀ r,r ∈ routesOf pre→RtB r):=hapt
       clear hapt
       have hdx:=HBD.out.2.1
       have HRW:Hid (rows.length=(routesOf pre).length∧∀ (i:Nat) (r:RtM),(routesOf pre)[i]?=some r→∃ row sv lv xv qv ov fv,rows[i]?=some row∧RtIs wB.heap.size W row r sv lv xv qv ov fv∧∀ k,Tr6 sv lv xv qv ov fv k→Dx DD (wB.heap.size+1) (wB.heap.size+1+1) wB.heap.size wr.heap.size (wr.heap.size+1+1+1+1) (wr.heap.size+1+1+1) k):=⟨hrl,hrs⟩
       have HOW:Hid (W3.ownsRow wB.heap.size 64 8 (.slice au (routesOf pre).length cu) (routesOf pre).length rows.flatten):=ownsRow_keep how (fun g hg=>HW3.out.1.block g (hlo g (hdx g hg).1).2 (fun e=>by rcases e with e | e;exact (hdx g hg).2.2.1 e;exact (hdx g hg).2.2.2.2.2.1 e))
       have HOL:Hid (∀ g,(Value.slice au (routesOf pre).length cu).ownBlock=some g→g<W3.heap.size):=fun g hg=>by have:=(hlo g (hdx g hg).1).2;omega
       have HOX:Hid ((.slice au (routesOf pre).length cu:Value).ownBlock≠some wB.heap.size∧(.slice au (routesOf pre).length cu:Value).ownBlock≠some wr.heap.size∧(.slice au (routesOf pre).length cu:Value).ownBlock≠some W.heap.size∧(.slice au (routesOf pre).length cu:Value).ownBlock≠some (w.heap.size+1)∧(.slice au (routesOf pre).length cu:Value).ownBlock≠some (wB.heap.size+1)):=⟨fun e=>(hdx _ e).2.2.2.1 rfl,fun e=>(hdx _ e).2.2.2.2.1 rfl,fun e=>by have:=(hlo _ (hdx _ e).1).2;omega,fun e=>by have:=(hlo _ (hdx _ e).1).1;omega,fun e=>(hdx _ e).2.1 rfl⟩
       have HNE:Hid (wB.heap.size≠wB.heap.size+1∧wr.heap.size≠wB.heap.size+1∧W.heap.size≠wB.heap.size+1∧w.heap.size+1≠wB.heap.size+1):=⟨by omega,by omega,by omega,by omega⟩
       have kt:∀ k,TrB (.slice sa1 t.st.length sc1) (.slice pa1 t.pa.length pc1) (.slice la1 t.li.length lc1) (.slice xa1 t.cr.length xc1) k→W3.drew.heap[k]?=W.heap[k]?:=fun k hk=>HW3.out.1.block k (HTL.out.2.lt hk).2 (fun e=>by rcases e with e | e;exact HDD.out k (by rw [e];exact HJJ.out.own.2.1) hk;exact HDD.out k (by rw [e];exact HJJ.out.own.2.2.2.2.1) hk)
       have ht3:=HTL.out.2.keep kt
       have HX3:Hid (Below wB.heap.size wB W3.drew∧LsAt 2 0 W3.drew (.slice sa1 t.st.length sc1) t.st∧LsAt 3 0 W3.drew (.slice pa1 t.pa.length pc1) t.pa∧LsAt 2 0 W3.drew (.slice la1 t.li.length lc1) t.li∧LsAt 1 0 W3.drew (.slice xa1 t.cr.length xc1) t.cr):=⟨(HTL.out.1.trans (HW3.out.1.below (by have:=(hlo _ HJJ.out.own.1).2;omega) (fun k hk e=>by omega))).drew,(ht3.s.ls.keep zl lr (fun _ _=>rfl)),(ht3.q.ls.keep zl lr (fun _ _=>rfl)),(ht3.l.ls.keep zl lr (fun _ _=>rfl)),(ht3.x.ls.keep zl lr (fun _ _=>rfl))⟩
       clear hrl how hrs hdx kt ht3 hlo HB3
       obtain ⟨i8,e81,e82,e83,e84⟩:=info_parts infoRoute
       have c0_00:W3.drew.cell? ⟨wB.heap.size,0,none⟩=some (.pointer (some ⟨bt,0,none⟩)):=(HB0.out.1).cell 0
       have c0_10:W3.drew.cell? ⟨wr.heap.size,0,none⟩=some (.int .i64 (i:Int)):=(HB0.out.2.1).cell 0
       have c0_20:W3.drew.cell? ⟨W.heap.size,0,none⟩=some (.slice sa1 t.st.length sc1):=(HB0.out.2.2.1).cell 0
       have c0_21:W3.drew.cell? ⟨W.heap.size,1,none⟩=some (.slice pa1 t.pa.length pc1):=(HB0.out.2.2.1).cell 1
       have c0_22:W3.drew.cell? ⟨W.heap.size,2,none⟩=some (.slice la1 t.li.length lc1):=(HB0.out.2.2.1).cell 2
       have c0_23:W3.drew.cell? ⟨W.heap.size,3,none⟩=some (.slice xa1 t.cr.length xc1):=(HB0.out.2.2.1).cell 3
       have c0_24:W3.drew.cell? ⟨W.heap.size,4,none⟩=some (.int .i64 tt):=(HB0.out.2.2.1).cell 4
       have c0_25:W3.drew.cell? ⟨W.heap.size,5,none⟩=some (.bool true):=(HB0.out.2.2.1).cell 5
       have c0_30:W3.drew.cell? ⟨w.heap.size+1,0,none⟩=some (.int .i64 v.ov):=(HB0.out.2.2.2.1).cell 0
       have x0o:W3.drew.cell? ⟨wB.heap.size+1,0,none⟩=some (.slice au (routesOf pre).length cu):=(HB0.out.2.2.2.2).cell 0
       refine wpIn_region_held (S:=(fun w'=>w'.cell? ⟨wB.heap.size,0,none⟩=some (.pointer (some ⟨bt,0,none⟩))∧w'.cell? ⟨wr.heap.size,0,none⟩=some (.int .i64 (i:Int))∧w'.cell? ⟨W.heap.size,0,none⟩=some (.slice sa1 t.st.length sc1)∧w'.cell? ⟨W.heap.size,1,none⟩=some (.slice pa1 t.pa.length pc1)∧w'.cell? ⟨W.heap.size,2,none⟩=some (.slice la1 t.li.length lc1)∧w'.cell? ⟨W.heap.size,3,none⟩=some (.slice xa1 t.cr.length xc1)∧w'.cell? ⟨W.heap.size,4,none⟩=some (.int .i64 tt)∧w'.cell? ⟨W.heap.size,5,none⟩=some (.bool true)∧w'.cell? ⟨w.heap.size+1,0,none⟩=some (.int .i64 v.ov))) (by kernel_rfl) ?_ (noDef_of (by kernel_rfl)) ⟨c0_00,c0_10,c0_20,c0_21,c0_22,c0_23,c0_24,c0_25,c0_30⟩ (fun hHeld=>?_)
       ·rintro ⟨a,w,h⟩;simp [Exit.inBlock,roundPost] at h
       refine wpAnyH_take (i:=1) (oi:={ dst:=some 50,op:=Op.load 72 (Operand.tmp 7),type:=72,pos:= "l2_route.go:76",after:=#[],guard:=none }) (v:=.pointer (some ⟨bt,0,none⟩)) rfl (by kernel_rfl) (by kernel_rfl) (by kernel_rfl) (fun _ _ _ h=>h) (Or.inl ⟨by rfl,?_⟩) (by assumption) ?_
       ·(intro w hSw;(try dsimp only at hSw);go_simp)
       try simp only [Act.put,List.setIfInBounds_toArray,List.set_cons_zero,List.set_cons_succ]
       refine wpAnyH_take (i:=2) (oi:={ dst:=some 51,op:=Op.load 3 (Operand.tmp 10),type:=3,pos:= "l2_route.go:76",after:=#[],guard:=none }) (v:=.int .i64 (i:Int)) rfl (by kernel_rfl) (by kernel_rfl) (by kernel_rfl) (fun _ _ _ h=>h) (Or.inl ⟨by rfl,?_⟩) (by assumption) ?_
       ·(intro w hSw;(try dsimp only at hSw);go_simp)
       try simp only [Act.put,List.setIfInBounds_toArray,List.set_cons_zero,List.set_cons_succ]
       refine wpAnyH_take (i:=3) (oi:={ dst:=some 52,op:=Op.load 78 (Operand.tmp 11),type:=78,pos:= "l2_route.go:76",after:=#[],guard:=none }) (v:=.agg #[.slice sa1 t.st.length sc1,.slice pa1 t.pa.length pc1,.slice la1 t.li.length lc1,.slice xa1 t.cr.length xc1,.int .i64 tt,.bool true]) rfl (by kernel_rfl) (by kernel_rfl) (by kernel_rfl) (fun _ _ _ h=>h) (Or.inl ⟨by rfl,?_⟩) (by assumption) ?_
       ·(intro w hSw;(try dsimp only at hSw);go_simp)
       try simp only [Act.put,List.setIfInBounds_toArray,List.set_cons_zero,List.set_cons_succ]
       refine wpAnyH_take (i:=4) (oi:={ dst:=some 53,op:=Op.load 3 (Operand.tmp 5),type:=3,pos:= "l2_route.go:76",after:=#[],guard:=none }) (v:=.int .i64 v.ov) rfl (by kernel_rfl) (by kernel_rfl) (by kernel_rfl) (fun _ _ _ h=>h) (Or.inl ⟨by rfl,?_⟩) (by assumption) ?_
       ·(intro w hSw;(try dsimp only at hSw);go_simp)
       try simp only [Act.put,List.setIfInBounds_toArray,List.set_cons_zero,List.set_cons_succ]
       refine wpAnyH_ready (rs:=[0,5]) (by kernel_rfl) (by simp) ?_
       refine AllReadyH.cons (o:={ dst:=some 49,op:=Op.load 29 (Operand.tmp 8),type:=29,pos:= "l2_route.go:76",after:=#[],guard:=none }) rfl (fun KK hKK=>?_) ?_
       ·go_simp
        refine hKK.out _ _ ?_ (fun hHeld=>?_)
        ·exact ⟨c0_00,c0_10,c0_20,c0_21,c0_22,c0_23,c0_24,c0_25,c0_30⟩
        clear hKK KK
        try simp only [Act.put,List.setIfInBounds_toArray,List.set_cons_zero,List.set_cons_succ]
        refine wpAnyH_ready (rs:=[5]) (by kernel_rfl) (by simp) ?_
        refine AllReadyH.cons (o:={ dst:=some 54,op:=Op.call { callee:=Callee.value (Operand.func 31),args:=#[Operand.tmp 50,Operand.tmp 51,Operand.tmp 52,Operand.tmp 53],argTypes:=#[72,3,78,3] },type:=64,pos:= "l2_route.go:76",after:=#[{ on:=1,ground:=Ground.data },{ on:=2,ground:=Ground.data },{ on:=3,ground:=Ground.data },{ on:=4,ground:=Ground.data }],guard:=none }) rfl (fun KK hKK=>?_) ?_
        ·go_simp
         refine (route31 OK.out (i:Int) tt true t sa1 pa1 la1 xa1 sc1 pc1 lc1 xc1 W3.drew (HT.out.mono HX3.out.1 lr) HX3.out.2.1 HX3.out.2.2.1 HX3.out.2.2.2.1 HX3.out.2.2.2.2 (by omega) (by omega) (by omega) (by omega) HLI.out.1 HLI.out.2.1 HLI.out.2.2).mono ?_
         rintro e w5 ⟨r1,r2,r3,r4,r5,r6,rfl,q1,q2,q3,q4,q5,q6,hb5,hap5,hfl5⟩
         have HAP5:Hid ((∀ k,r4.ownBlock=some k→r5.ownBlock≠some k)∧RtB (v.fin (i:Int) tt t (ovOf v tt))):=⟨hap5,l1,l2,l3,l4,ovOf_len OK.out tt,Nat.le_trans hfl5 (by omega)⟩
         have HB5:Hid (Box w5 wB.heap.size 72 #[.pointer (some ⟨bt,0,none⟩)]∧Box w5 wr.heap.size 3 #[.int .i64 (i:Int)]∧Box w5 W.heap.size 78 #[.slice sa1 t.st.length sc1,.slice pa1 t.pa.length pc1,.slice la1 t.li.length lc1,.slice xa1 t.cr.length xc1,.int .i64 tt,.bool true]∧Box w5 (w.heap.size+1) 3 #[.int .i64 v.ov]∧Box w5 (wB.heap.size+1) 29 #[.slice au (routesOf pre).length cu]):=⟨(HB0.out.1).mono hb5 lr,(HB0.out.2.1).mono hb5 lr,(HB0.out.2.2.1).mono hb5 lr,(HB0.out.2.2.2.1).mono hb5 lr,(HB0.out.2.2.2.2).mono hb5 lr⟩
         have HQ5:Hid (Below W3.drew.heap.size W3.drew w5∧RtIs W3.drew.heap.size w5 [.int .i64 (i:Int),.int .i64 tt,r1,r2,r3,r4,r5,r6] (v.fin (i:Int) tt t (ovOf v tt)) r1 r2 r3 r4 r5 r6):=⟨hb5,⟨rfl,q1,q2,q3,q4,q5,q6⟩⟩
         obtain ⟨ra1,rc1,rfl⟩:=q1.val
         obtain ⟨ra2,rc2,rfl⟩:=q2.val
         obtain ⟨ra3,rc3,rfl⟩:=q3.val
         obtain ⟨ra4,rc4,rfl⟩:=q4.val
         obtain ⟨ra5,rc5,rfl⟩:=q5.val
         obtain ⟨ra6,rc6,rfl⟩:=q6.val
         clear q1 q2 q3 q4 q5 q6 hb5 hap5 hfl5
         have c5_00:w5.cell? ⟨wB.heap.size,0,none⟩=some (.pointer (some ⟨bt,0,none⟩)):=(HB5.out.1).cell 0
         have c5_10:w5.cell? ⟨wr.heap.size,0,none⟩=some (.int .i64 (i:Int)):=(HB5.out.2.1).cell 0
         have c5_20:w5.cell? ⟨W.heap.size,0,none⟩=some (.slice sa1 t.st.length sc1):=(HB5.out.2.2.1).cell 0
         have c5_21:w5.cell? ⟨W.heap.size,1,none⟩=some (.slice pa1 t.pa.length pc1):=(HB5.out.2.2.1).cell 1
         have c5_22:w5.cell? ⟨W.heap.size,2,none⟩=some (.slice la1 t.li.length lc1):=(HB5.out.2.2.1).cell 2
         have c5_23:w5.cell? ⟨W.heap.size,3,none⟩=some (.slice xa1 t.cr.length xc1):=(HB5.out.2.2.1).cell 3
         have c5_24:w5.cell? ⟨W.heap.size,4,none⟩=some (.int .i64 tt):=(HB5.out.2.2.1).cell 4
         have c5_25:w5.cell? ⟨W.heap.size,5,none⟩=some (.bool true):=(HB5.out.2.2.1).cell 5
         have c5_30:w5.cell? ⟨w.heap.size+1,0,none⟩=some (.int .i64 v.ov):=(HB5.out.2.2.2.1).cell 0
         have x5o:w5.cell? ⟨wB.heap.size+1,0,none⟩=some (.slice au (routesOf pre).length cu):=(HB5.out.2.2.2.2).cell 0
         go_wp2_with fail
         refine hKK.out _ _ ?_ (fun hHeld=>?_)
         ·exact ⟨c5_00,c5_10,c5_20,c5_21,c5_22,c5_23,c5_24,c5_25,c5_30⟩
         clear hKK KK
         try simp only [Act.put,List.setIfInBounds_toArray,List.set_cons_zero,List.set_cons_succ]
         refine wpAnyH_ready (rs:=[6]) (by kernel_rfl) (by simp) ?_
         refine AllReadyH.cons (o:={ dst:=some 55,op:=Op.buildSlice 29 1 #[(0,Operand.tmp 54)],type:=29,pos:= "l2_route.go:76",after:=#[{ on:=5,ground:=Ground.data }],guard:=none }) rfl (fun KK hKK=>?_) ?_
         ·have HB6:Hid (Box (w5.alloc (.cells #[.int .i64 (i:Int),.int .i64 tt,.slice ra1 t.st.length rc1,.slice ra2 t.li.length rc2,.slice ra3 t.cr.length rc3,.slice ra4 t.pa.length rc4,.slice ra5 (ovOf v tt).length rc5,.slice ra6 (v.fls t.li t.li).length rc6] 64)) wB.heap.size 72 #[.pointer (some ⟨bt,0,none⟩)]∧Box (w5.alloc (.cells #[.int .i64 (i:Int),.int .i64 tt,.slice ra1 t.st.length rc1,.slice ra2 t.li.length rc2,.slice ra3 t.cr.length rc3,.slice ra4 t.pa.length rc4,.slice ra5 (ovOf v tt).length rc5,.slice ra6 (v.fls t.li t.li).length rc6] 64)) wr.heap.size 3 #[.int .i64 (i:Int)]∧Box (w5.alloc (.cells #[.int .i64 (i:Int),.int .i64 tt,.slice ra1 t.st.length rc1,.slice ra2 t.li.length rc2,.slice ra3 t.cr.length rc3,.slice ra4 t.pa.length rc4,.slice ra5 (ovOf v tt).length rc5,.slice ra6 (v.fls t.li t.li).length rc6] 64)) W.heap.size 78 #[.slice sa1 t.st.length sc1,.slice pa1 t.pa.length pc1,.slice la1 t.li.length lc1,.slice xa1 t.cr.length xc1,.int .i64 tt,.bool true]∧Box (w5.alloc (.cells #[.int .i64 (i:Int),.int .i64 tt,.slice ra1 t.st.length rc1,.slice ra2 t.li.length rc2,.slice ra3 t.cr.length rc3,.slice ra4 t.pa.length rc4,.slice ra5 (ovOf v tt).length rc5,.slice ra6 (v.fls t.li t.li).length rc6] 64)) (w.heap.size+1) 3 #[.int .i64 v.ov]∧Box (w5.alloc (.cells #[.int .i64 (i:Int),.int .i64 tt,.slice ra1 t.st.length rc1,.slice ra2 t.li.length rc2,.slice ra3 t.cr.length rc3,.slice ra4 t.pa.length rc4,.slice ra5 (ovOf v tt).length rc5,.slice ra6 (v.fls t.li t.li).length rc6] 64)) (wB.heap.size+1) 29 #[.slice au (routesOf pre).length cu]):=⟨(HB5.out.1).alloc _,(HB5.out.2.1).alloc _,(HB5.out.2.2.1).alloc _,(HB5.out.2.2.2.1).alloc _,(HB5.out.2.2.2.2).alloc _⟩
          have c6_00:(w5.alloc (.cells #[.int .i64 (i:Int),.int .i64 tt,.slice ra1 t.st.length rc1,.slice ra2 t.li.length rc2,.slice ra3 t.cr.length rc3,.slice ra4 t.pa.length rc4,.slice ra5 (ovOf v tt).length rc5,.slice ra6 (v.fls t.li t.li).length rc6] 64)).cell? ⟨wB.heap.size,0,none⟩=some (.pointer (some ⟨bt,0,none⟩)):=(HB6.out.1).cell 0
          have c6_10:(w5.alloc (.cells #[.int .i64 (i:Int),.int .i64 tt,.slice ra1 t.st.length rc1,.slice ra2 t.li.length rc2,.slice ra3 t.cr.length rc3,.slice ra4 t.pa.length rc4,.slice ra5 (ovOf v tt).length rc5,.slice ra6 (v.fls t.li t.li).length rc6] 64)).cell? ⟨wr.heap.size,0,none⟩=some (.int .i64 (i:Int)):=(HB6.out.2.1).cell 0
          have c6_20:(w5.alloc (.cells #[.int .i64 (i:Int),.int .i64 tt,.slice ra1 t.st.length rc1,.slice ra2 t.li.length rc2,.slice ra3 t.cr.length rc3,.slice ra4 t.pa.length rc4,.slice ra5 (ovOf v tt).length rc5,.slice ra6 (v.fls t.li t.li).length rc6] 64)).cell? ⟨W.heap.size,0,none⟩=some (.slice sa1 t.st.length sc1):=(HB6.out.2.2.1).cell 0
          have c6_21:(w5.alloc (.cells #[.int .i64 (i:Int),.int .i64 tt,.slice ra1 t.st.length rc1,.slice ra2 t.li.length rc2,.slice ra3 t.cr.length rc3,.slice ra4 t.pa.length rc4,.slice ra5 (ovOf v tt).length rc5,.slice ra6 (v.fls t.li t.li).length rc6] 64)).cell? ⟨W.heap.size,1,none⟩=some (.slice pa1 t.pa.length pc1):=(HB6.out.2.2.1).cell 1
          have c6_22:(w5.alloc (.cells #[.int .i64 (i:Int),.int .i64 tt,.slice ra1 t.st.length rc1,.slice ra2 t.li.length rc2,.slice ra3 t.cr.length rc3,.slice ra4 t.pa.length rc4,.slice ra5 (ovOf v tt).length rc5,.slice ra6 (v.fls t.li t.li).length rc6] 64)).cell? ⟨W.heap.size,2,none⟩=some (.slice la1 t.li.length lc1):=(HB6.out.2.2.1).cell 2
          have c6_23:(w5.alloc (.cells #[.int .i64 (i:Int),.int .i64 tt,.slice ra1 t.st.length rc1,.slice ra2 t.li.length rc2,.slice ra3 t.cr.length rc3,.slice ra4 t.pa.length rc4,.slice ra5 (ovOf v tt).length rc5,.slice ra6 (v.fls t.li t.li).length rc6] 64)).cell? ⟨W.heap.size,3,none⟩=some (.slice xa1 t.cr.length xc1):=(HB6.out.2.2.1).cell 3
          have c6_24:(w5.alloc (.cells #[.int .i64 (i:Int),.int .i64 tt,.slice ra1 t.st.length rc1,.slice ra2 t.li.length rc2,.slice ra3 t.cr.length rc3,.slice ra4 t.pa.length rc4,.slice ra5 (ovOf v tt).length rc5,.slice ra6 (v.fls t.li t.li).length rc6] 64)).cell? ⟨W.heap.size,4,none⟩=some (.int .i64 tt):=(HB6.out.2.2.1).cell 4
          have c6_25:(w5.alloc (.cells #[.int .i64 (i:Int),.int .i64 tt,.slice ra1 t.st.length rc1,.slice ra2 t.li.length rc2,.slice ra3 t.cr.length rc3,.slice ra4 t.pa.length rc4,.slice ra5 (ovOf v tt).length rc5,.slice ra6 (v.fls t.li t.li).length rc6] 64)).cell? ⟨W.heap.size,5,none⟩=some (.bool true):=(HB6.out.2.2.1).cell 5
          have c6_30:(w5.alloc (.cells #[.int .i64 (i:Int),.int .i64 tt,.slice ra1 t.st.length rc1,.slice ra2 t.li.length rc2,.slice ra3 t.cr.length rc3,.slice ra4 t.pa.length rc4,.slice ra5 (ovOf v tt).length rc5,.slice ra6 (v.fls t.li t.li).length rc6] 64)).cell? ⟨w.heap.size+1,0,none⟩=some (.int .i64 v.ov):=(HB6.out.2.2.2.1).cell 0
          have x6o:(w5.alloc (.cells #[.int .i64 (i:Int),.int .i64 tt,.slice ra1 t.st.length rc1,.slice ra2 t.li.length rc2,.slice ra3 t.cr.length rc3,.slice ra4 t.pa.length rc4,.slice ra5 (ovOf v tt).length rc5,.slice ra6 (v.fls t.li t.li).length rc6] 64)).cell? ⟨wB.heap.size+1,0,none⟩=some (.slice au (routesOf pre).length cu):=(HB6.out.2.2.2.2).cell 0
          go_simp
          refine hKK.out _ _ ?_ (fun hHeld=>?_)
          ·exact ⟨c6_00,c6_10,c6_20,c6_21,c6_22,c6_23,c6_24,c6_25,c6_30⟩
          clear hKK KK
          try simp only [Act.put,List.setIfInBounds_toArray,List.set_cons_zero,List.set_cons_succ]
          refine wpAnyH_ready (rs:=[7]) (by kernel_rfl) (by simp) ?_
          refine AllReadyH.cons (o:={ dst:=some 56,op:=Op.call { callee:=Callee.builtin Builtin.append,args:=#[Operand.tmp 49,Operand.tmp 55],argTypes:=#[29,29] },type:=29,pos:= "l2_route.go:76",after:=#[{ on:=0,ground:=Ground.data },{ on:=6,ground:=Ground.data },{ on:=5,ground:=Ground.chain }],guard:=none }) rfl (fun KK hKK=>?_) ?_
          ·have HO6:Hid ((w5.alloc (.cells #[.int .i64 (i:Int),.int .i64 tt,.slice ra1 t.st.length rc1,.slice ra2 t.li.length rc2,.slice ra3 t.cr.length rc3,.slice ra4 t.pa.length rc4,.slice ra5 (ovOf v tt).length rc5,.slice ra6 (v.fls t.li t.li).length rc6] 64)).ownsRow wB.heap.size 64 8 (.slice au (routesOf pre).length cu) (routesOf pre).length rows.flatten):=ownsRow_keep HOW.out (fun g hg=>(Below.heap_alloc w5 _ g (by have:=HOL.out g hg;have:=HQ5.out.1.size;have e:W3.drew.heap.size=W3.heap.size:=rfl;omega)).trans ((HQ5.out.1.block g (by have:=HOL.out g hg;have e:W3.drew.heap.size=W3.heap.size:=rfl;omega)).trans rfl))
           refine step_appC rfl (.tmp 49) (.tmp 55) 29 rfl wB.heap.size 64 i8 _ 8 160 Tryz.underlying29 e81 e82 e83 e84 rfl (by decide) (.slice au (routesOf pre).length cu) (routesOf pre).length rows.flatten (by simp [Act.eval]) HO6.out ⟨w5.heap.size,0,none⟩ 1 1 [.int .i64 (i:Int),.int .i64 tt,.slice ra1 t.st.length rc1,.slice ra2 t.li.length rc2,.slice ra3 t.cr.length rc3,.slice ra4 t.pa.length rc4,.slice ra5 (ovOf v tt).length rc5,.slice ra6 (v.fls t.li t.li).length rc6] (by simp [Act.eval]) rfl (by decide) (news_C [.int .i64 (i:Int),.int .i64 tt,.slice ra1 t.st.length rc1,.slice ra2 t.li.length rc2,.slice ra3 t.cr.length rc3,.slice ra4 t.pa.length rc4,.slice ra5 (ovOf v tt).length rc5,.slice ra6 (v.fls t.li t.li).length rc6] rfl) (by intro u hu;simp at hu;rcases hu with rfl | rfl | rfl | rfl | rfl | rfl | rfl | rfl <;> rfl) (by simp [maxLen];omega) (by omega) (by have:=HQ5.out.1.size;have e:W3.drew.heap.size=W3.heap.size:=rfl;have:=HSZ.out;simp;omega) ?_
           intro v7 w7 ho7 ha7
           obtain ⟨ov7,oc7,rfl⟩:=row_shape ho7
           have HB7:Hid (Box w7 wB.heap.size 72 #[.pointer (some ⟨bt,0,none⟩)]∧Box w7 wr.heap.size 3 #[.int .i64 (i:Int)]∧Box w7 W.heap.size 78 #[.slice sa1 t.st.length sc1,.slice pa1 t.pa.length pc1,.slice la1 t.li.length lc1,.slice xa1 t.cr.length xc1,.int .i64 tt,.bool true]∧Box w7 (w.heap.size+1) 3 #[.int .i64 v.ov]∧Box w7 (wB.heap.size+1) 29 #[.slice au (routesOf pre).length cu]):=⟨(HB6.out.1).grown ha7.fr (fun e=>HOX.out.1 e),(HB6.out.2.1).grown ha7.fr (fun e=>HOX.out.2.1 e),(HB6.out.2.2.1).grown ha7.fr (fun e=>HOX.out.2.2.1 e),(HB6.out.2.2.2.1).grown ha7.fr (fun e=>HOX.out.2.2.2.1 e),(HB6.out.2.2.2.2).grown ha7.fr (fun e=>HOX.out.2.2.2.2 e)⟩
           have g7:=(HB7.out.2.2.2.2).free 0
           have HA7:Hid (Appd (w5.alloc (.cells #[.int .i64 (i:Int),.int .i64 tt,.slice ra1 t.st.length rc1,.slice ra2 t.li.length rc2,.slice ra3 t.cr.length rc3,.slice ra4 t.pa.length rc4,.slice ra5 (ovOf v tt).length rc5,.slice ra6 (v.fls t.li t.li).length rc6] 64)) w7 (.slice au (routesOf pre).length cu) (.slice ov7 ((routesOf pre).length+1) oc7)∧w7.ownsRow wB.heap.size 64 8 (.slice ov7 ((routesOf pre).length+1) oc7) ((routesOf pre).length+1) (rows.flatten ++ [.int .i64 (i:Int),.int .i64 tt,.slice ra1 t.st.length rc1,.slice ra2 t.li.length rc2,.slice ra3 t.cr.length rc3,.slice ra4 t.pa.length rc4,.slice ra5 (ovOf v tt).length rc5,.slice ra6 (v.fls t.li t.li).length rc6])):=⟨ha7,ho7⟩
           clear ha7 ho7
           have c7_00:w7.cell? ⟨wB.heap.size,0,none⟩=some (.pointer (some ⟨bt,0,none⟩)):=(HB7.out.1).cell 0
           have c7_10:w7.cell? ⟨wr.heap.size,0,none⟩=some (.int .i64 (i:Int)):=(HB7.out.2.1).cell 0
           have c7_20:w7.cell? ⟨W.heap.size,0,none⟩=some (.slice sa1 t.st.length sc1):=(HB7.out.2.2.1).cell 0
           have c7_21:w7.cell? ⟨W.heap.size,1,none⟩=some (.slice pa1 t.pa.length pc1):=(HB7.out.2.2.1).cell 1
           have c7_22:w7.cell? ⟨W.heap.size,2,none⟩=some (.slice la1 t.li.length lc1):=(HB7.out.2.2.1).cell 2
           have c7_23:w7.cell? ⟨W.heap.size,3,none⟩=some (.slice xa1 t.cr.length xc1):=(HB7.out.2.2.1).cell 3
           have c7_24:w7.cell? ⟨W.heap.size,4,none⟩=some (.int .i64 tt):=(HB7.out.2.2.1).cell 4
           have c7_25:w7.cell? ⟨W.heap.size,5,none⟩=some (.bool true):=(HB7.out.2.2.1).cell 5
           have c7_30:w7.cell? ⟨w.heap.size+1,0,none⟩=some (.int .i64 v.ov):=(HB7.out.2.2.2.1).cell 0
           have x7o:w7.cell? ⟨wB.heap.size+1,0,none⟩=some (.slice au (routesOf pre).length cu):=(HB7.out.2.2.2.2).cell 0
           refine hKK.out _ _ ?_ (fun hHeld=>?_)
           ·exact ⟨c7_00,c7_10,c7_20,c7_21,c7_22,c7_23,c7_24,c7_25,c7_30⟩
           clear hKK KK
           try simp only [Act.put,List.setIfInBounds_toArray,List.set_cons_zero,List.set_cons_succ]
           refine wpAnyH_ready (rs:=[8]) (by kernel_rfl) (by simp) ?_
           refine AllReadyH.cons (o:={ dst:=none,op:=Op.store 29 (Operand.tmp 8) (Operand.tmp 56),type:=0,pos:= "l2_route.go:76",after:=#[{ on:=7,ground:=Ground.data },{ on:=7,ground:=Ground.chain },{ on:=0,ground:=Ground.phase },{ on:=1,ground:=Ground.phase },{ on:=2,ground:=Ground.phase },{ on:=3,ground:=Ground.phase },{ on:=4,ground:=Ground.phase },{ on:=5,ground:=Ground.phase },{ on:=6,ground:=Ground.phase },{ on:=7,ground:=Ground.phase }],guard:=none }) rfl (fun KK hKK=>?_) ?_
           ·go_simp
            refine hKK.out _ _ ?_ (fun hHeld=>?_)
            ·exact ⟨(((HB7.out.1).other (p:=⟨wB.heap.size+1,0,none⟩) (HNE.out.1) _).cell 0),(((HB7.out.2.1).other (p:=⟨wB.heap.size+1,0,none⟩) (HNE.out.2.1) _).cell 0),(((HB7.out.2.2.1).other (p:=⟨wB.heap.size+1,0,none⟩) (HNE.out.2.2.1) _).cell 0),(((HB7.out.2.2.1).other (p:=⟨wB.heap.size+1,0,none⟩) (HNE.out.2.2.1) _).cell 1),(((HB7.out.2.2.1).other (p:=⟨wB.heap.size+1,0,none⟩) (HNE.out.2.2.1) _).cell 2),(((HB7.out.2.2.1).other (p:=⟨wB.heap.size+1,0,none⟩) (HNE.out.2.2.1) _).cell 3),(((HB7.out.2.2.1).other (p:=⟨wB.heap.size+1,0,none⟩) (HNE.out.2.2.1) _).cell 4),(((HB7.out.2.2.1).other (p:=⟨wB.heap.size+1,0,none⟩) (HNE.out.2.2.1) _).cell 5),(((HB7.out.2.2.2.1).other (p:=⟨wB.heap.size+1,0,none⟩) (HNE.out.2.2.2) _).cell 0)⟩
            clear hKK KK
            try simp only [Act.put,List.setIfInBounds_toArray,List.set_cons_zero,List.set_cons_succ]
            refine wpAnyH_done (by kernel_rfl) ?_ _
            exact HJJ.out.some HLPR.out hnz ⟨by omega,by omega⟩ HW3.out.1.drew HW3.out.2.2 HW3.out.2.1 (by omega) (by omega) rfl HBD.out.1 HBD.out.2 HRW.out.1 HRW.out.2 HAPT.out HAP5.out.2 HAP5.out.1 HQ5.out.1 HQ5.out.2 HA7.out.1 HA7.out.2
           exact AllReadyH.nil
          exact AllReadyH.nil
         exact AllReadyH.nil
        exact AllReadyH.nil
       refine AllReadyH.cons (o:={ dst:=some 54,op:=Op.call { callee:=Callee.value (Operand.func 31),args:=#[Operand.tmp 50,Operand.tmp 51,Operand.tmp 52,Operand.tmp 53],argTypes:=#[72,3,78,3] },type:=64,pos:= "l2_route.go:76",after:=#[{ on:=1,ground:=Ground.data },{ on:=2,ground:=Ground.data },{ on:=3,ground:=Ground.data },{ on:=4,ground:=Ground.data }],guard:=none }) rfl (fun KK hKK=>?_) ?_
       ·go_simp
        refine (route31 OK.out (i:Int) tt true t sa1 pa1 la1 xa1 sc1 pc1 lc1 xc1 W3.drew (HT.out.mono HX3.out.1 lr) HX3.out.2.1 HX3.out.2.2.1 HX3.out.2.2.2.1 HX3.out.2.2.2.2 (by omega) (by omega) (by omega) (by omega) HLI.out.1 HLI.out.2.1 HLI.out.2.2).mono ?_
        rintro e w5 ⟨r1,r2,r3,r4,r5,r6,rfl,q1,q2,q3,q4,q5,q6,hb5,hap5,hfl5⟩
        have HAP5:Hid ((∀ k,r4.ownBlock=some k→r5.ownBlock≠some k)∧RtB (v.fin (i:Int) tt t (ovOf v tt))):=⟨hap5,l1,l2,l3,l4,ovOf_len OK.out tt,Nat.le_trans hfl5 (by omega)⟩
        have HB5:Hid (Box w5 wB.heap.size 72 #[.pointer (some ⟨bt,0,none⟩)]∧Box w5 wr.heap.size 3 #[.int .i64 (i:Int)]∧Box w5 W.heap.size 78 #[.slice sa1 t.st.length sc1,.slice pa1 t.pa.length pc1,.slice la1 t.li.length lc1,.slice xa1 t.cr.length xc1,.int .i64 tt,.bool true]∧Box w5 (w.heap.size+1) 3 #[.int .i64 v.ov]∧Box w5 (wB.heap.size+1) 29 #[.slice au (routesOf pre).length cu]):=⟨(HB0.out.1).mono hb5 lr,(HB0.out.2.1).mono hb5 lr,(HB0.out.2.2.1).mono hb5 lr,(HB0.out.2.2.2.1).mono hb5 lr,(HB0.out.2.2.2.2).mono hb5 lr⟩
        have HQ5:Hid (Below W3.drew.heap.size W3.drew w5∧RtIs W3.drew.heap.size w5 [.int .i64 (i:Int),.int .i64 tt,r1,r2,r3,r4,r5,r6] (v.fin (i:Int) tt t (ovOf v tt)) r1 r2 r3 r4 r5 r6):=⟨hb5,⟨rfl,q1,q2,q3,q4,q5,q6⟩⟩
        obtain ⟨ra1,rc1,rfl⟩:=q1.val
        obtain ⟨ra2,rc2,rfl⟩:=q2.val
        obtain ⟨ra3,rc3,rfl⟩:=q3.val
        obtain ⟨ra4,rc4,rfl⟩:=q4.val
        obtain ⟨ra5,rc5,rfl⟩:=q5.val
        obtain ⟨ra6,rc6,rfl⟩:=q6.val
        clear q1 q2 q3 q4 q5 q6 hb5 hap5 hfl5
        have c5_00:w5.cell? ⟨wB.heap.size,0,none⟩=some (.pointer (some ⟨bt,0,none⟩)):=(HB5.out.1).cell 0
        have c5_10:w5.cell? ⟨wr.heap.size,0,none⟩=some (.int .i64 (i:Int)):=(HB5.out.2.1).cell 0
        have c5_20:w5.cell? ⟨W.heap.size,0,none⟩=some (.slice sa1 t.st.length sc1):=(HB5.out.2.2.1).cell 0
        have c5_21:w5.cell? ⟨W.heap.size,1,none⟩=some (.slice pa1 t.pa.length pc1):=(HB5.out.2.2.1).cell 1
        have c5_22:w5.cell? ⟨W.heap.size,2,none⟩=some (.slice la1 t.li.length lc1):=(HB5.out.2.2.1).cell 2
        have c5_23:w5.cell? ⟨W.heap.size,3,none⟩=some (.slice xa1 t.cr.length xc1):=(HB5.out.2.2.1).cell 3
        have c5_24:w5.cell? ⟨W.heap.size,4,none⟩=some (.int .i64 tt):=(HB5.out.2.2.1).cell 4
        have c5_25:w5.cell? ⟨W.heap.size,5,none⟩=some (.bool true):=(HB5.out.2.2.1).cell 5
        have c5_30:w5.cell? ⟨w.heap.size+1,0,none⟩=some (.int .i64 v.ov):=(HB5.out.2.2.2.1).cell 0
        have x5o:w5.cell? ⟨wB.heap.size+1,0,none⟩=some (.slice au (routesOf pre).length cu):=(HB5.out.2.2.2.2).cell 0
        go_wp2_with fail
        refine hKK.out _ _ ?_ (fun hHeld=>?_)
        ·exact ⟨c5_00,c5_10,c5_20,c5_21,c5_22,c5_23,c5_24,c5_25,c5_30⟩
        clear hKK KK
        try simp only [Act.put,List.setIfInBounds_toArray,List.set_cons_zero,List.set_cons_succ]
        refine wpAnyH_ready (rs:=[0,6]) (by kernel_rfl) (by simp) ?_
        refine AllReadyH.cons (o:={ dst:=some 49,op:=Op.load 29 (Operand.tmp 8),type:=29,pos:= "l2_route.go:76",after:=#[],guard:=none }) rfl (fun KK hKK=>?_) ?_
        ·go_simp
         refine hKK.out _ _ ?_ (fun hHeld=>?_)
         ·exact ⟨c5_00,c5_10,c5_20,c5_21,c5_22,c5_23,c5_24,c5_25,c5_30⟩
         clear hKK KK
         try simp only [Act.put,List.setIfInBounds_toArray,List.set_cons_zero,List.set_cons_succ]
         refine wpAnyH_ready (rs:=[6]) (by kernel_rfl) (by simp) ?_
         refine AllReadyH.cons (o:={ dst:=some 55,op:=Op.buildSlice 29 1 #[(0,Operand.tmp 54)],type:=29,pos:= "l2_route.go:76",after:=#[{ on:=5,ground:=Ground.data }],guard:=none }) rfl (fun KK hKK=>?_) ?_
         ·have HB6:Hid (Box (w5.alloc (.cells #[.int .i64 (i:Int),.int .i64 tt,.slice ra1 t.st.length rc1,.slice ra2 t.li.length rc2,.slice ra3 t.cr.length rc3,.slice ra4 t.pa.length rc4,.slice ra5 (ovOf v tt).length rc5,.slice ra6 (v.fls t.li t.li).length rc6] 64)) wB.heap.size 72 #[.pointer (some ⟨bt,0,none⟩)]∧Box (w5.alloc (.cells #[.int .i64 (i:Int),.int .i64 tt,.slice ra1 t.st.length rc1,.slice ra2 t.li.length rc2,.slice ra3 t.cr.length rc3,.slice ra4 t.pa.length rc4,.slice ra5 (ovOf v tt).length rc5,.slice ra6 (v.fls t.li t.li).length rc6] 64)) wr.heap.size 3 #[.int .i64 (i:Int)]∧Box (w5.alloc (.cells #[.int .i64 (i:Int),.int .i64 tt,.slice ra1 t.st.length rc1,.slice ra2 t.li.length rc2,.slice ra3 t.cr.length rc3,.slice ra4 t.pa.length rc4,.slice ra5 (ovOf v tt).length rc5,.slice ra6 (v.fls t.li t.li).length rc6] 64)) W.heap.size 78 #[.slice sa1 t.st.length sc1,.slice pa1 t.pa.length pc1,.slice la1 t.li.length lc1,.slice xa1 t.cr.length xc1,.int .i64 tt,.bool true]∧Box (w5.alloc (.cells #[.int .i64 (i:Int),.int .i64 tt,.slice ra1 t.st.length rc1,.slice ra2 t.li.length rc2,.slice ra3 t.cr.length rc3,.slice ra4 t.pa.length rc4,.slice ra5 (ovOf v tt).length rc5,.slice ra6 (v.fls t.li t.li).length rc6] 64)) (w.heap.size+1) 3 #[.int .i64 v.ov]∧Box (w5.alloc (.cells #[.int .i64 (i:Int),.int .i64 tt,.slice ra1 t.st.length rc1,.slice ra2 t.li.length rc2,.slice ra3 t.cr.length rc3,.slice ra4 t.pa.length rc4,.slice ra5 (ovOf v tt).length rc5,.slice ra6 (v.fls t.li t.li).length rc6] 64)) (wB.heap.size+1) 29 #[.slice au (routesOf pre).length cu]):=⟨(HB5.out.1).alloc _,(HB5.out.2.1).alloc _,(HB5.out.2.2.1).alloc _,(HB5.out.2.2.2.1).alloc _,(HB5.out.2.2.2.2).alloc _⟩
          have c6_00:(w5.alloc (.cells #[.int .i64 (i:Int),.int .i64 tt,.slice ra1 t.st.length rc1,.slice ra2 t.li.length rc2,.slice ra3 t.cr.length rc3,.slice ra4 t.pa.length rc4,.slice ra5 (ovOf v tt).length rc5,.slice ra6 (v.fls t.li t.li).length rc6] 64)).cell? ⟨wB.heap.size,0,none⟩=some (.pointer (some ⟨bt,0,none⟩)):=(HB6.out.1).cell 0
          have c6_10:(w5.alloc (.cells #[.int .i64 (i:Int),.int .i64 tt,.slice ra1 t.st.length rc1,.slice ra2 t.li.length rc2,.slice ra3 t.cr.length rc3,.slice ra4 t.pa.length rc4,.slice ra5 (ovOf v tt).length rc5,.slice ra6 (v.fls t.li t.li).length rc6] 64)).cell? ⟨wr.heap.size,0,none⟩=some (.int .i64 (i:Int)):=(HB6.out.2.1).cell 0
          have c6_20:(w5.alloc (.cells #[.int .i64 (i:Int),.int .i64 tt,.slice ra1 t.st.length rc1,.slice ra2 t.li.length rc2,.slice ra3 t.cr.length rc3,.slice ra4 t.pa.length rc4,.slice ra5 (ovOf v tt).length rc5,.slice ra6 (v.fls t.li t.li).length rc6] 64)).cell? ⟨W.heap.size,0,none⟩=some (.slice sa1 t.st.length sc1):=(HB6.out.2.2.1).cell 0
          have c6_21:(w5.alloc (.cells #[.int .i64 (i:Int),.int .i64 tt,.slice ra1 t.st.length rc1,.slice ra2 t.li.length rc2,.slice ra3 t.cr.length rc3,.slice ra4 t.pa.length rc4,.slice ra5 (ovOf v tt).length rc5,.slice ra6 (v.fls t.li t.li).length rc6] 64)).cell? ⟨W.heap.size,1,none⟩=some (.slice pa1 t.pa.length pc1):=(HB6.out.2.2.1).cell 1
          have c6_22:(w5.alloc (.cells #[.int .i64 (i:Int),.int .i64 tt,.slice ra1 t.st.length rc1,.slice ra2 t.li.length rc2,.slice ra3 t.cr.length rc3,.slice ra4 t.pa.length rc4,.slice ra5 (ovOf v tt).length rc5,.slice ra6 (v.fls t.li t.li).length rc6] 64)).cell? ⟨W.heap.size,2,none⟩=some (.slice la1 t.li.length lc1):=(HB6.out.2.2.1).cell 2
          have c6_23:(w5.alloc (.cells #[.int .i64 (i:Int),.int .i64 tt,.slice ra1 t.st.length rc1,.slice ra2 t.li.length rc2,.slice ra3 t.cr.length rc3,.slice ra4 t.pa.length rc4,.slice ra5 (ovOf v tt).length rc5,.slice ra6 (v.fls t.li t.li).length rc6] 64)).cell? ⟨W.heap.size,3,none⟩=some (.slice xa1 t.cr.length xc1):=(HB6.out.2.2.1).cell 3
          have c6_24:(w5.alloc (.cells #[.int .i64 (i:Int),.int .i64 tt,.slice ra1 t.st.length rc1,.slice ra2 t.li.length rc2,.slice ra3 t.cr.length rc3,.slice ra4 t.pa.length rc4,.slice ra5 (ovOf v tt).length rc5,.slice ra6 (v.fls t.li t.li).length rc6] 64)).cell? ⟨W.heap.size,4,none⟩=some (.int .i64 tt):=(HB6.out.2.2.1).cell 4
          have c6_25:(w5.alloc (.cells #[.int .i64 (i:Int),.int .i64 tt,.slice ra1 t.st.length rc1,.slice ra2 t.li.length rc2,.slice ra3 t.cr.length rc3,.slice ra4 t.pa.length rc4,.slice ra5 (ovOf v tt).length rc5,.slice ra6 (v.fls t.li t.li).length rc6] 64)).cell? ⟨W.heap.size,5,none⟩=some (.bool true):=(HB6.out.2.2.1).cell 5
          have c6_30:(w5.alloc (.cells #[.int .i64 (i:Int),.int .i64 tt,.slice ra1 t.st.length rc1,.slice ra2 t.li.length rc2,.slice ra3 t.cr.length rc3,.slice ra4 t.pa.length rc4,.slice ra5 (ovOf v tt).length rc5,.slice ra6 (v.fls t.li t.li).length rc6] 64)).cell? ⟨w.heap.size+1,0,none⟩=some (.int .i64 v.ov):=(HB6.out.2.2.2.1).cell 0
          have x6o:(w5.alloc (.cells #[.int .i64 (i:Int),.int .i64 tt,.slice ra1 t.st.length rc1,.slice ra2 t.li.length rc2,.slice ra3 t.cr.length rc3,.slice ra4 t.pa.length rc4,.slice ra5 (ovOf v tt).length rc5,.slice ra6 (v.fls t.li t.li).length rc6] 64)).cell? ⟨wB.heap.size+1,0,none⟩=some (.slice au (routesOf pre).length cu):=(HB6.out.2.2.2.2).cell 0
          go_simp
          refine hKK.out _ _ ?_ (fun hHeld=>?_)
          ·exact ⟨c6_00,c6_10,c6_20,c6_21,c6_22,c6_23,c6_24,c6_25,c6_30⟩
          clear hKK KK
          try simp only [Act.put,List.setIfInBounds_toArray,List.set_cons_zero,List.set_cons_succ]
          refine wpAnyH_ready (rs:=[7]) (by kernel_rfl) (by simp) ?_
          refine AllReadyH.cons (o:={ dst:=some 56,op:=Op.call { callee:=Callee.builtin Builtin.append,args:=#[Operand.tmp 49,Operand.tmp 55],argTypes:=#[29,29] },type:=29,pos:= "l2_route.go:76",after:=#[{ on:=0,ground:=Ground.data },{ on:=6,ground:=Ground.data },{ on:=5,ground:=Ground.chain }],guard:=none }) rfl (fun KK hKK=>?_) ?_
          ·have HO6:Hid ((w5.alloc (.cells #[.int .i64 (i:Int),.int .i64 tt,.slice ra1 t.st.length rc1,.slice ra2 t.li.length rc2,.slice ra3 t.cr.length rc3,.slice ra4 t.pa.length rc4,.slice ra5 (ovOf v tt).length rc5,.slice ra6 (v.fls t.li t.li).length rc6] 64)).ownsRow wB.heap.size 64 8 (.slice au (routesOf pre).length cu) (routesOf pre).length rows.flatten):=ownsRow_keep HOW.out (fun g hg=>(Below.heap_alloc w5 _ g (by have:=HOL.out g hg;have:=HQ5.out.1.size;have e:W3.drew.heap.size=W3.heap.size:=rfl;omega)).trans ((HQ5.out.1.block g (by have:=HOL.out g hg;have e:W3.drew.heap.size=W3.heap.size:=rfl;omega)).trans rfl))
           refine step_appC rfl (.tmp 49) (.tmp 55) 29 rfl wB.heap.size 64 i8 _ 8 160 Tryz.underlying29 e81 e82 e83 e84 rfl (by decide) (.slice au (routesOf pre).length cu) (routesOf pre).length rows.flatten (by simp [Act.eval]) HO6.out ⟨w5.heap.size,0,none⟩ 1 1 [.int .i64 (i:Int),.int .i64 tt,.slice ra1 t.st.length rc1,.slice ra2 t.li.length rc2,.slice ra3 t.cr.length rc3,.slice ra4 t.pa.length rc4,.slice ra5 (ovOf v tt).length rc5,.slice ra6 (v.fls t.li t.li).length rc6] (by simp [Act.eval]) rfl (by decide) (news_C [.int .i64 (i:Int),.int .i64 tt,.slice ra1 t.st.length rc1,.slice ra2 t.li.length rc2,.slice ra3 t.cr.length rc3,.slice ra4 t.pa.length rc4,.slice ra5 (ovOf v tt).length rc5,.slice ra6 (v.fls t.li t.li).length rc6] rfl) (by intro u hu;simp at hu;rcases hu with rfl | rfl | rfl | rfl | rfl | rfl | rfl | rfl <;> rfl) (by simp [maxLen];omega) (by omega) (by have:=HQ5.out.1.size;have e:W3.drew.heap.size=W3.heap.size:=rfl;have:=HSZ.out;simp;omega) ?_
           intro v7 w7 ho7 ha7
           obtain ⟨ov7,oc7,rfl⟩:=row_shape ho7
           have HB7:Hid (Box w7 wB.heap.size 72 #[.pointer (some ⟨bt,0,none⟩)]∧Box w7 wr.heap.size 3 #[.int .i64 (i:Int)]∧Box w7 W.heap.size 78 #[.slice sa1 t.st.length sc1,.slice pa1 t.pa.length pc1,.slice la1 t.li.length lc1,.slice xa1 t.cr.length xc1,.int .i64 tt,.bool true]∧Box w7 (w.heap.size+1) 3 #[.int .i64 v.ov]∧Box w7 (wB.heap.size+1) 29 #[.slice au (routesOf pre).length cu]):=⟨(HB6.out.1).grown ha7.fr (fun e=>HOX.out.1 e),(HB6.out.2.1).grown ha7.fr (fun e=>HOX.out.2.1 e),(HB6.out.2.2.1).grown ha7.fr (fun e=>HOX.out.2.2.1 e),(HB6.out.2.2.2.1).grown ha7.fr (fun e=>HOX.out.2.2.2.1 e),(HB6.out.2.2.2.2).grown ha7.fr (fun e=>HOX.out.2.2.2.2 e)⟩
           have g7:=(HB7.out.2.2.2.2).free 0
           have HA7:Hid (Appd (w5.alloc (.cells #[.int .i64 (i:Int),.int .i64 tt,.slice ra1 t.st.length rc1,.slice ra2 t.li.length rc2,.slice ra3 t.cr.length rc3,.slice ra4 t.pa.length rc4,.slice ra5 (ovOf v tt).length rc5,.slice ra6 (v.fls t.li t.li).length rc6] 64)) w7 (.slice au (routesOf pre).length cu) (.slice ov7 ((routesOf pre).length+1) oc7)∧w7.ownsRow wB.heap.size 64 8 (.slice ov7 ((routesOf pre).length+1) oc7) ((routesOf pre).length+1) (rows.flatten ++ [.int .i64 (i:Int),.int .i64 tt,.slice ra1 t.st.length rc1,.slice ra2 t.li.length rc2,.slice ra3 t.cr.length rc3,.slice ra4 t.pa.length rc4,.slice ra5 (ovOf v tt).length rc5,.slice ra6 (v.fls t.li t.li).length rc6])):=⟨ha7,ho7⟩
           clear ha7 ho7
           have c7_00:w7.cell? ⟨wB.heap.size,0,none⟩=some (.pointer (some ⟨bt,0,none⟩)):=(HB7.out.1).cell 0
           have c7_10:w7.cell? ⟨wr.heap.size,0,none⟩=some (.int .i64 (i:Int)):=(HB7.out.2.1).cell 0
           have c7_20:w7.cell? ⟨W.heap.size,0,none⟩=some (.slice sa1 t.st.length sc1):=(HB7.out.2.2.1).cell 0
           have c7_21:w7.cell? ⟨W.heap.size,1,none⟩=some (.slice pa1 t.pa.length pc1):=(HB7.out.2.2.1).cell 1
           have c7_22:w7.cell? ⟨W.heap.size,2,none⟩=some (.slice la1 t.li.length lc1):=(HB7.out.2.2.1).cell 2
           have c7_23:w7.cell? ⟨W.heap.size,3,none⟩=some (.slice xa1 t.cr.length xc1):=(HB7.out.2.2.1).cell 3
           have c7_24:w7.cell? ⟨W.heap.size,4,none⟩=some (.int .i64 tt):=(HB7.out.2.2.1).cell 4
           have c7_25:w7.cell? ⟨W.heap.size,5,none⟩=some (.bool true):=(HB7.out.2.2.1).cell 5
           have c7_30:w7.cell? ⟨w.heap.size+1,0,none⟩=some (.int .i64 v.ov):=(HB7.out.2.2.2.1).cell 0
           have x7o:w7.cell? ⟨wB.heap.size+1,0,none⟩=some (.slice au (routesOf pre).length cu):=(HB7.out.2.2.2.2).cell 0
           refine hKK.out _ _ ?_ (fun hHeld=>?_)
           ·exact ⟨c7_00,c7_10,c7_20,c7_21,c7_22,c7_23,c7_24,c7_25,c7_30⟩
           clear hKK KK
           try simp only [Act.put,List.setIfInBounds_toArray,List.set_cons_zero,List.set_cons_succ]
           refine wpAnyH_ready (rs:=[8]) (by kernel_rfl) (by simp) ?_
           refine AllReadyH.cons (o:={ dst:=none,op:=Op.store 29 (Operand.tmp 8) (Operand.tmp 56),type:=0,pos:= "l2_route.go:76",after:=#[{ on:=7,ground:=Ground.data },{ on:=7,ground:=Ground.chain },{ on:=0,ground:=Ground.phase },{ on:=1,ground:=Ground.phase },{ on:=2,ground:=Ground.phase },{ on:=3,ground:=Ground.phase },{ on:=4,ground:=Ground.phase },{ on:=5,ground:=Ground.phase },{ on:=6,ground:=Ground.phase },{ on:=7,ground:=Ground.phase }],guard:=none }) rfl (fun KK hKK=>?_) ?_
           ·go_simp
            refine hKK.out _ _ ?_ (fun hHeld=>?_)
            ·exact ⟨(((HB7.out.1).other (p:=⟨wB.heap.size+1,0,none⟩) (HNE.out.1) _).cell 0),(((HB7.out.2.1).other (p:=⟨wB.heap.size+1,0,none⟩) (HNE.out.2.1) _).cell 0),(((HB7.out.2.2.1).other (p:=⟨wB.heap.size+1,0,none⟩) (HNE.out.2.2.1) _).cell 0),(((HB7.out.2.2.1).other (p:=⟨wB.heap.size+1,0,none⟩) (HNE.out.2.2.1) _).cell 1),(((HB7.out.2.2.1).other (p:=⟨wB.heap.size+1,0,none⟩) (HNE.out.2.2.1) _).cell 2),(((HB7.out.2.2.1).other (p:=⟨wB.heap.size+1,0,none⟩) (HNE.out.2.2.1) _).cell 3),(((HB7.out.2.2.1).other (p:=⟨wB.heap.size+1,0,none⟩) (HNE.out.2.2.1) _).cell 4),(((HB7.out.2.2.1).other (p:=⟨wB.heap.size+1,0,none⟩) (HNE.out.2.2.1) _).cell 5),(((HB7.out.2.2.2.1).other (p:=⟨wB.heap.size+1,0,none⟩) (HNE.out.2.2.2) _).cell 0)⟩
            clear hKK KK
            try simp only [Act.put,List.setIfInBounds_toArray,List.set_cons_zero,List.set_cons_succ]
            refine wpAnyH_done (by kernel_rfl) ?_ _
            exact HJJ.out.some HLPR.out hnz ⟨by omega,by omega⟩ HW3.out.1.drew HW3.out.2.2 HW3.out.2.1 (by omega) (by omega) rfl HBD.out.1 HBD.out.2 HRW.out.1 HRW.out.2 HAPT.out HAP5.out.2 HAP5.out.1 HQ5.out.1 HQ5.out.2 HA7.out.1 HA7.out.2
           exact AllReadyH.nil
          exact AllReadyH.nil
         exact AllReadyH.nil
        refine AllReadyH.cons (o:={ dst:=some 55,op:=Op.buildSlice 29 1 #[(0,Operand.tmp 54)],type:=29,pos:= "l2_route.go:76",after:=#[{ on:=5,ground:=Ground.data }],guard:=none }) rfl (fun KK hKK=>?_) ?_
        ·have HB6:Hid (Box (w5.alloc (.cells #[.int .i64 (i:Int),.int .i64 tt,.slice ra1 t.st.length rc1,.slice ra2 t.li.length rc2,.slice ra3 t.cr.length rc3,.slice ra4 t.pa.length rc4,.slice ra5 (ovOf v tt).length rc5,.slice ra6 (v.fls t.li t.li).length rc6] 64)) wB.heap.size 72 #[.pointer (some ⟨bt,0,none⟩)]∧Box (w5.alloc (.cells #[.int .i64 (i:Int),.int .i64 tt,.slice ra1 t.st.length rc1,.slice ra2 t.li.length rc2,.slice ra3 t.cr.length rc3,.slice ra4 t.pa.length rc4,.slice ra5 (ovOf v tt).length rc5,.slice ra6 (v.fls t.li t.li).length rc6] 64)) wr.heap.size 3 #[.int .i64 (i:Int)]∧Box (w5.alloc (.cells #[.int .i64 (i:Int),.int .i64 tt,.slice ra1 t.st.length rc1,.slice ra2 t.li.length rc2,.slice ra3 t.cr.length rc3,.slice ra4 t.pa.length rc4,.slice ra5 (ovOf v tt).length rc5,.slice ra6 (v.fls t.li t.li).length rc6] 64)) W.heap.size 78 #[.slice sa1 t.st.length sc1,.slice pa1 t.pa.length pc1,.slice la1 t.li.length lc1,.slice xa1 t.cr.length xc1,.int .i64 tt,.bool true]∧Box (w5.alloc (.cells #[.int .i64 (i:Int),.int .i64 tt,.slice ra1 t.st.length rc1,.slice ra2 t.li.length rc2,.slice ra3 t.cr.length rc3,.slice ra4 t.pa.length rc4,.slice ra5 (ovOf v tt).length rc5,.slice ra6 (v.fls t.li t.li).length rc6] 64)) (w.heap.size+1) 3 #[.int .i64 v.ov]∧Box (w5.alloc (.cells #[.int .i64 (i:Int),.int .i64 tt,.slice ra1 t.st.length rc1,.slice ra2 t.li.length rc2,.slice ra3 t.cr.length rc3,.slice ra4 t.pa.length rc4,.slice ra5 (ovOf v tt).length rc5,.slice ra6 (v.fls t.li t.li).length rc6] 64)) (wB.heap.size+1) 29 #[.slice au (routesOf pre).length cu]):=⟨(HB5.out.1).alloc _,(HB5.out.2.1).alloc _,(HB5.out.2.2.1).alloc _,(HB5.out.2.2.2.1).alloc _,(HB5.out.2.2.2.2).alloc _⟩
         have c6_00:(w5.alloc (.cells #[.int .i64 (i:Int),.int .i64 tt,.slice ra1 t.st.length rc1,.slice ra2 t.li.length rc2,.slice ra3 t.cr.length rc3,.slice ra4 t.pa.length rc4,.slice ra5 (ovOf v tt).length rc5,.slice ra6 (v.fls t.li t.li).length rc6] 64)).cell? ⟨wB.heap.size,0,none⟩=some (.pointer (some ⟨bt,0,none⟩)):=(HB6.out.1).cell 0
         have c6_10:(w5.alloc (.cells #[.int .i64 (i:Int),.int .i64 tt,.slice ra1 t.st.length rc1,.slice ra2 t.li.length rc2,.slice ra3 t.cr.length rc3,.slice ra4 t.pa.length rc4,.slice ra5 (ovOf v tt).length rc5,.slice ra6 (v.fls t.li t.li).length rc6] 64)).cell? ⟨wr.heap.size,0,none⟩=some (.int .i64 (i:Int)):=(HB6.out.2.1).cell 0
         have c6_20:(w5.alloc (.cells #[.int .i64 (i:Int),.int .i64 tt,.slice ra1 t.st.length rc1,.slice ra2 t.li.length rc2,.slice ra3 t.cr.length rc3,.slice ra4 t.pa.length rc4,.slice ra5 (ovOf v tt).length rc5,.slice ra6 (v.fls t.li t.li).length rc6] 64)).cell? ⟨W.heap.size,0,none⟩=some (.slice sa1 t.st.length sc1):=(HB6.out.2.2.1).cell 0
         have c6_21:(w5.alloc (.cells #[.int .i64 (i:Int),.int .i64 tt,.slice ra1 t.st.length rc1,.slice ra2 t.li.length rc2,.slice ra3 t.cr.length rc3,.slice ra4 t.pa.length rc4,.slice ra5 (ovOf v tt).length rc5,.slice ra6 (v.fls t.li t.li).length rc6] 64)).cell? ⟨W.heap.size,1,none⟩=some (.slice pa1 t.pa.length pc1):=(HB6.out.2.2.1).cell 1
         have c6_22:(w5.alloc (.cells #[.int .i64 (i:Int),.int .i64 tt,.slice ra1 t.st.length rc1,.slice ra2 t.li.length rc2,.slice ra3 t.cr.length rc3,.slice ra4 t.pa.length rc4,.slice ra5 (ovOf v tt).length rc5,.slice ra6 (v.fls t.li t.li).length rc6] 64)).cell? ⟨W.heap.size,2,none⟩=some (.slice la1 t.li.length lc1):=(HB6.out.2.2.1).cell 2
         have c6_23:(w5.alloc (.cells #[.int .i64 (i:Int),.int .i64 tt,.slice ra1 t.st.length rc1,.slice ra2 t.li.length rc2,.slice ra3 t.cr.length rc3,.slice ra4 t.pa.length rc4,.slice ra5 (ovOf v tt).length rc5,.slice ra6 (v.fls t.li t.li).length rc6] 64)).cell? ⟨W.heap.size,3,none⟩=some (.slice xa1 t.cr.length xc1):=(HB6.out.2.2.1).cell 3
         have c6_24:(w5.alloc (.cells #[.int .i64 (i:Int),.int .i64 tt,.slice ra1 t.st.length rc1,.slice ra2 t.li.length rc2,.slice ra3 t.cr.length rc3,.slice ra4 t.pa.length rc4,.slice ra5 (ovOf v tt).length rc5,.slice ra6 (v.fls t.li t.li).length rc6] 64)).cell? ⟨W.heap.size,4,none⟩=some (.int .i64 tt):=(HB6.out.2.2.1).cell 4
         have c6_25:(w5.alloc (.cells #[.int .i64 (i:Int),.int .i64 tt,.slice ra1 t.st.length rc1,.slice ra2 t.li.length rc2,.slice ra3 t.cr.length rc3,.slice ra4 t.pa.length rc4,.slice ra5 (ovOf v tt).length rc5,.slice ra6 (v.fls t.li t.li).length rc6] 64)).cell? ⟨W.heap.size,5,none⟩=some (.bool true):=(HB6.out.2.2.1).cell 5
         have c6_30:(w5.alloc (.cells #[.int .i64 (i:Int),.int .i64 tt,.slice ra1 t.st.length rc1,.slice ra2 t.li.length rc2,.slice ra3 t.cr.length rc3,.slice ra4 t.pa.length rc4,.slice ra5 (ovOf v tt).length rc5,.slice ra6 (v.fls t.li t.li).length rc6] 64)).cell? ⟨w.heap.size+1,0,none⟩=some (.int .i64 v.ov):=(HB6.out.2.2.2.1).cell 0
         have x6o:(w5.alloc (.cells #[.int .i64 (i:Int),.int .i64 tt,.slice ra1 t.st.length rc1,.slice ra2 t.li.length rc2,.slice ra3 t.cr.length rc3,.slice ra4 t.pa.length rc4,.slice ra5 (ovOf v tt).length rc5,.slice ra6 (v.fls t.li t.li).length rc6] 64)).cell? ⟨wB.heap.size+1,0,none⟩=some (.slice au (routesOf pre).length cu):=(HB6.out.2.2.2.2).cell 0
         go_simp
         refine hKK.out _ _ ?_ (fun hHeld=>?_)
         ·exact ⟨c6_00,c6_10,c6_20,c6_21,c6_22,c6_23,c6_24,c6_25,c6_30⟩
         clear hKK KK
         try simp only [Act.put,List.setIfInBounds_toArray,List.set_cons_zero,List.set_cons_succ]
         refine wpAnyH_ready (rs:=[0]) (by kernel_rfl) (by simp) ?_
         refine AllReadyH.cons (o:={ dst:=some 49,op:=Op.load 29 (Operand.tmp 8),type:=29,pos:= "l2_route.go:76",after:=#[],guard:=none }) rfl (fun KK hKK=>?_) ?_
         ·go_simp
          refine hKK.out _ _ ?_ (fun hHeld=>?_)
          ·exact ⟨c6_00,c6_10,c6_20,c6_21,c6_22,c6_23,c6_24,c6_25,c6_30⟩
          clear hKK KK
          try simp only [Act.put,List.setIfInBounds_toArray,List.set_cons_zero,List.set_cons_succ]
          refine wpAnyH_ready (rs:=[7]) (by kernel_rfl) (by simp) ?_
          refine AllReadyH.cons (o:={ dst:=some 56,op:=Op.call { callee:=Callee.builtin Builtin.append,args:=#[Operand.tmp 49,Operand.tmp 55],argTypes:=#[29,29] },type:=29,pos:= "l2_route.go:76",after:=#[{ on:=0,ground:=Ground.data },{ on:=6,ground:=Ground.data },{ on:=5,ground:=Ground.chain }],guard:=none }) rfl (fun KK hKK=>?_) ?_
          ·have HO6:Hid ((w5.alloc (.cells #[.int .i64 (i:Int),.int .i64 tt,.slice ra1 t.st.length rc1,.slice ra2 t.li.length rc2,.slice ra3 t.cr.length rc3,.slice ra4 t.pa.length rc4,.slice ra5 (ovOf v tt).length rc5,.slice ra6 (v.fls t.li t.li).length rc6] 64)).ownsRow wB.heap.size 64 8 (.slice au (routesOf pre).length cu) (routesOf pre).length rows.flatten):=ownsRow_keep HOW.out (fun g hg=>(Below.heap_alloc w5 _ g (by have:=HOL.out g hg;have:=HQ5.out.1.size;have e:W3.drew.heap.size=W3.heap.size:=rfl;omega)).trans ((HQ5.out.1.block g (by have:=HOL.out g hg;have e:W3.drew.heap.size=W3.heap.size:=rfl;omega)).trans rfl))
           refine step_appC rfl (.tmp 49) (.tmp 55) 29 rfl wB.heap.size 64 i8 _ 8 160 Tryz.underlying29 e81 e82 e83 e84 rfl (by decide) (.slice au (routesOf pre).length cu) (routesOf pre).length rows.flatten (by simp [Act.eval]) HO6.out ⟨w5.heap.size,0,none⟩ 1 1 [.int .i64 (i:Int),.int .i64 tt,.slice ra1 t.st.length rc1,.slice ra2 t.li.length rc2,.slice ra3 t.cr.length rc3,.slice ra4 t.pa.length rc4,.slice ra5 (ovOf v tt).length rc5,.slice ra6 (v.fls t.li t.li).length rc6] (by simp [Act.eval]) rfl (by decide) (news_C [.int .i64 (i:Int),.int .i64 tt,.slice ra1 t.st.length rc1,.slice ra2 t.li.length rc2,.slice ra3 t.cr.length rc3,.slice ra4 t.pa.length rc4,.slice ra5 (ovOf v tt).length rc5,.slice ra6 (v.fls t.li t.li).length rc6] rfl) (by intro u hu;simp at hu;rcases hu with rfl | rfl | rfl | rfl | rfl | rfl | rfl | rfl <;> rfl) (by simp [maxLen];omega) (by omega) (by have:=HQ5.out.1.size;have e:W3.drew.heap.size=W3.heap.size:=rfl;have:=HSZ.out;simp;omega) ?_
           intro v7 w7 ho7 ha7
           obtain ⟨ov7,oc7,rfl⟩:=row_shape ho7
           have HB7:Hid (Box w7 wB.heap.size 72 #[.pointer (some ⟨bt,0,none⟩)]∧Box w7 wr.heap.size 3 #[.int .i64 (i:Int)]∧Box w7 W.heap.size 78 #[.slice sa1 t.st.length sc1,.slice pa1 t.pa.length pc1,.slice la1 t.li.length lc1,.slice xa1 t.cr.length xc1,.int .i64 tt,.bool true]∧Box w7 (w.heap.size+1) 3 #[.int .i64 v.ov]∧Box w7 (wB.heap.size+1) 29 #[.slice au (routesOf pre).length cu]):=⟨(HB6.out.1).grown ha7.fr (fun e=>HOX.out.1 e),(HB6.out.2.1).grown ha7.fr (fun e=>HOX.out.2.1 e),(HB6.out.2.2.1).grown ha7.fr (fun e=>HOX.out.2.2.1 e),(HB6.out.2.2.2.1).grown ha7.fr (fun e=>HOX.out.2.2.2.1 e),(HB6.out.2.2.2.2).grown ha7.fr (fun e=>HOX.out.2.2.2.2 e)⟩
           have g7:=(HB7.out.2.2.2.2).free 0
           have HA7:Hid (Appd (w5.alloc (.cells #[.int .i64 (i:Int),.int .i64 tt,.slice ra1 t.st.length rc1,.slice ra2 t.li.length rc2,.slice ra3 t.cr.length rc3,.slice ra4 t.pa.length rc4,.slice ra5 (ovOf v tt).length rc5,.slice ra6 (v.fls t.li t.li).length rc6] 64)) w7 (.slice au (routesOf pre).length cu) (.slice ov7 ((routesOf pre).length+1) oc7)∧w7.ownsRow wB.heap.size 64 8 (.slice ov7 ((routesOf pre).length+1) oc7) ((routesOf pre).length+1) (rows.flatten ++ [.int .i64 (i:Int),.int .i64 tt,.slice ra1 t.st.length rc1,.slice ra2 t.li.length rc2,.slice ra3 t.cr.length rc3,.slice ra4 t.pa.length rc4,.slice ra5 (ovOf v tt).length rc5,.slice ra6 (v.fls t.li t.li).length rc6])):=⟨ha7,ho7⟩
           clear ha7 ho7
           have c7_00:w7.cell? ⟨wB.heap.size,0,none⟩=some (.pointer (some ⟨bt,0,none⟩)):=(HB7.out.1).cell 0
           have c7_10:w7.cell? ⟨wr.heap.size,0,none⟩=some (.int .i64 (i:Int)):=(HB7.out.2.1).cell 0
           have c7_20:w7.cell? ⟨W.heap.size,0,none⟩=some (.slice sa1 t.st.length sc1):=(HB7.out.2.2.1).cell 0
           have c7_21:w7.cell? ⟨W.heap.size,1,none⟩=some (.slice pa1 t.pa.length pc1):=(HB7.out.2.2.1).cell 1
           have c7_22:w7.cell? ⟨W.heap.size,2,none⟩=some (.slice la1 t.li.length lc1):=(HB7.out.2.2.1).cell 2
           have c7_23:w7.cell? ⟨W.heap.size,3,none⟩=some (.slice xa1 t.cr.length xc1):=(HB7.out.2.2.1).cell 3
           have c7_24:w7.cell? ⟨W.heap.size,4,none⟩=some (.int .i64 tt):=(HB7.out.2.2.1).cell 4
           have c7_25:w7.cell? ⟨W.heap.size,5,none⟩=some (.bool true):=(HB7.out.2.2.1).cell 5
           have c7_30:w7.cell? ⟨w.heap.size+1,0,none⟩=some (.int .i64 v.ov):=(HB7.out.2.2.2.1).cell 0
           have x7o:w7.cell? ⟨wB.heap.size+1,0,none⟩=some (.slice au (routesOf pre).length cu):=(HB7.out.2.2.2.2).cell 0
           refine hKK.out _ _ ?_ (fun hHeld=>?_)
           ·exact ⟨c7_00,c7_10,c7_20,c7_21,c7_22,c7_23,c7_24,c7_25,c7_30⟩
           clear hKK KK
           try simp only [Act.put,List.setIfInBounds_toArray,List.set_cons_zero,List.set_cons_succ]
           refine wpAnyH_ready (rs:=[8]) (by kernel_rfl) (by simp) ?_
           refine AllReadyH.cons (o:={ dst:=none,op:=Op.store 29 (Operand.tmp 8) (Operand.tmp 56),type:=0,pos:= "l2_route.go:76",after:=#[{ on:=7,ground:=Ground.data },{ on:=7,ground:=Ground.chain },{ on:=0,ground:=Ground.phase },{ on:=1,ground:=Ground.phase },{ on:=2,ground:=Ground.phase },{ on:=3,ground:=Ground.phase },{ on:=4,ground:=Ground.phase },{ on:=5,ground:=Ground.phase },{ on:=6,ground:=Ground.phase },{ on:=7,ground:=Ground.phase }],guard:=none }) rfl (fun KK hKK=>?_) ?_
           ·go_simp
            refine hKK.out _ _ ?_ (fun hHeld=>?_)
            ·exact ⟨(((HB7.out.1).other (p:=⟨wB.heap.size+1,0,none⟩) (HNE.out.1) _).cell 0),(((HB7.out.2.1).other (p:=⟨wB.heap.size+1,0,none⟩) (HNE.out.2.1) _).cell 0),(((HB7.out.2.2.1).other (p:=⟨wB.heap.size+1,0,none⟩) (HNE.out.2.2.1) _).cell 0),(((HB7.out.2.2.1).other (p:=⟨wB.heap.size+1,0,none⟩) (HNE.out.2.2.1) _).cell 1),(((HB7.out.2.2.1).other (p:=⟨wB.heap.size+1,0,none⟩) (HNE.out.2.2.1) _).cell 2),(((HB7.out.2.2.1).other (p:=⟨wB.heap.size+1,0,none⟩) (HNE.out.2.2.1) _).cell 3),(((HB7.out.2.2.1).other (p:=⟨wB.heap.size+1,0,none⟩) (HNE.out.2.2.1) _).cell 4),(((HB7.out.2.2.1).other (p:=⟨wB.heap.size+1,0,none⟩) (HNE.out.2.2.1) _).cell 5),(((HB7.out.2.2.2.1).other (p:=⟨wB.heap.size+1,0,none⟩) (HNE.out.2.2.2) _).cell 0)⟩
            clear hKK KK
            try simp only [Act.put,List.setIfInBounds_toArray,List.set_cons_zero,List.set_cons_succ]
            refine wpAnyH_done (by kernel_rfl) ?_ _
            exact HJJ.out.some HLPR.out hnz ⟨by omega,by omega⟩ HW3.out.1.drew HW3.out.2.2 HW3.out.2.1 (by omega) (by omega) rfl HBD.out.1 HBD.out.2 HRW.out.1 HRW.out.2 HAPT.out HAP5.out.2 HAP5.out.1 HQ5.out.1 HQ5.out.2 HA7.out.1 HA7.out.2
           exact AllReadyH.nil
          exact AllReadyH.nil
         exact AllReadyH.nil
        exact AllReadyH.nil
       exact AllReadyH.nil
     ·subst hdn
      subst hit
      gi_wp2
      exact HJJ.out.none HLPR.out hnz (HFS.out _) (HW2.out.2.2.1.set 0 _) (HLS.out _) (by omega) rfl
   have HWl:Hid (Below wr.heap.size wr (((((wr.alloc (.cells #[.int .i64 (i:Int)] 3)).alloc (.cells #[.pointer (some ⟨bt,0,none⟩)] 72)).alloc (.cells #[.int .i64 (i:Int)] 3)).alloc (.deferred (some []))).alloc (.loop lp))∧(((((wr.alloc (.cells #[.int .i64 (i:Int)] 3)).alloc (.cells #[.pointer (some ⟨bt,0,none⟩)] 72)).alloc (.cells #[.int .i64 (i:Int)] 3)).alloc (.deferred (some []))).alloc (.loop lp)).heap.size=wr.heap.size+5∧Box (((((wr.alloc (.cells #[.int .i64 (i:Int)] 3)).alloc (.cells #[.pointer (some ⟨bt,0,none⟩)] 72)).alloc (.cells #[.int .i64 (i:Int)] 3)).alloc (.deferred (some []))).alloc (.loop lp)) wr.heap.size 3 #[.int .i64 (i:Int)]∧Box (((((wr.alloc (.cells #[.int .i64 (i:Int)] 3)).alloc (.cells #[.pointer (some ⟨bt,0,none⟩)] 72)).alloc (.cells #[.int .i64 (i:Int)] 3)).alloc (.deferred (some []))).alloc (.loop lp)) (wr.heap.size+1) 72 #[.pointer (some ⟨bt,0,none⟩)]∧Box (((((wr.alloc (.cells #[.int .i64 (i:Int)] 3)).alloc (.cells #[.pointer (some ⟨bt,0,none⟩)] 72)).alloc (.cells #[.int .i64 (i:Int)] 3)).alloc (.deferred (some []))).alloc (.loop lp)) (wr.heap.size+1+1) 3 #[.int .i64 (i:Int)]∧(((((wr.alloc (.cells #[.int .i64 (i:Int)] 3)).alloc (.cells #[.pointer (some ⟨bt,0,none⟩)] 72)).alloc (.cells #[.int .i64 (i:Int)] 3)).alloc (.deferred (some []))).alloc (.loop lp)).heap[wr.heap.size+1+1+1]?=some (.deferred (some []))∧(((((wr.alloc (.cells #[.int .i64 (i:Int)] 3)).alloc (.cells #[.pointer (some ⟨bt,0,none⟩)] 72)).alloc (.cells #[.int .i64 (i:Int)] 3)).alloc (.deferred (some []))).alloc (.loop lp)).heap[wr.heap.size+1+1+1+1]?=some (.loop lp)):=by
    refine ⟨((((bel1 wr _).al _).al _).al _).al _,by simp,((((Box.new wr 3 _).alloc _).alloc _).alloc _).alloc _,?_,?_,?_,?_⟩
    ·have:=Box.new (wr.alloc (.cells #[.int .i64 (i:Int)] 3)) 72 #[.pointer (some ⟨bt,0,none⟩)]
     rw [World.size_alloc] at this
     exact ((this.alloc _).alloc _).alloc _
    ·have:=Box.new ((wr.alloc (.cells #[.int .i64 (i:Int)] 3)).alloc (.cells #[.pointer (some ⟨bt,0,none⟩)] 72)) 3 #[.int .i64 (i:Int)]
     rw [World.size_alloc,World.size_alloc] at this
     exact (this.alloc _).alloc _
    ·rw [← hs3,Below.heap_alloc _ _ _ (by simp)]
     exact heap_alloc_new _ _
    ·have e:wr.heap.size+1+1+1+1=(((((wr.alloc (.cells #[.int .i64 (i:Int)] 3)).alloc (.cells #[.pointer (some ⟨bt,0,none⟩)] 72)).alloc (.cells #[.int .i64 (i:Int)] 3)).alloc (.deferred (some [])))).heap.size:=by simp
     rw [e]
     exact heap_alloc_new _ _
   generalize (((((wr.alloc (.cells #[.int .i64 (i:Int)] 3)).alloc (.cells #[.pointer (some ⟨bt,0,none⟩)] 72)).alloc (.cells #[.int .i64 (i:Int)] 3)).alloc (.deferred (some []))).alloc (.loop lp))=Wl at HWl ⊢
   clear hs3 x7
   have hln:wB.heap.size≤Wl.heap.size:=by have:=HWl.out.2.1;omega
   have HJ0:=HR.out.start HWl.out.1 HWl.out.2.1 HWl.out.2.2.1 HWl.out.2.2.2.2.2.1 HWl.out.2.2.2.2.2.2
   refine (walk66 OK.out HT.out lr (JR.ok _ _ _ _ _ _ _ _ _ _) (comeTo67 OK.out HT.out lr lr (JR.ok _ _ _ _ _ _ _ _ _ _) HYD.out (2*v.n+1)) (v.all i) Wl _ (wr.heap.size+1) (wr.heap.size+1+1) HJ0 (HR.out.bel.trans (HWl.out.1.mono (by omega))) HWl.out.2.2.2.1 HWl.out.2.2.2.2.1 hlt hln (fun e=>by rcases e with e | e | e | e;exact absurd (HR.out.lt _ e).2 (by omega);omega;omega;omega)).mono ?_
   rintro e W' ⟨hu,D',hD',hFr,hcase⟩
   refine ⟨hu,?_⟩
   clear HJ0 hu
   rcases hcase with hj | ⟨q,hq,hx⟩
   ·refine .inl ⟨hj.r,?_⟩
    obtain ⟨out2,hrs⟩:=HR.out.next HWl.out.1 HWl.out.2.1 hD' hFr hj (.loop { lp with state:=.exhausted })
    have HRS:Hid _:=hrs
    clear hrs hj hD' hFr HYD HWl
    dsimp only at HRS ⊢
    generalize W'.putObj (wr.heap.size+1+1+1+1) _=Wn at HRS ⊢
    go_wp2_with fail
    have e1:(i:Int)+1=((i+1:Nat):Int):=by omega
    rw [e1]
    refine ⟨v.k-(i+1),by omega,?_⟩
    rw [hI.out]
    exact ⟨i+1,_,_,out2,_,_,_,_,_,_,_,_,_,_,_,_,_,_,_,_,_,_,_,_,_,_,_,_,_,_,_,_,_,_,_,_,_,_,_,_,_,_,_,_,_,_,_,_,_,_,rfl,by omega,rfl,HRS⟩
   ·refine .inr ⟨.ret,hx.r,?_⟩
    obtain ⟨hbf,ks,hks,hkn,hk2⟩:=HR.out.stop HWl.out.1 HWl.out.2.1 hFr hx (.loop { lp with state:=.exhausted,pending:=some .ret })
    have HF:Hid (routesF v=[]):=routesF_none hlt hq hx.x
    have HK:Hid _:=hk2
    have HBF:Hid _:=hbf
    clear hk2 hbf hx hq hD' hFr HYD HWl
    dsimp only at HK HBF ⊢
    generalize W'.putObj (wr.heap.size+1+1+1+1) _=Wn at HK HBF ⊢
    go_wp2_with fail
    show LeavesInM Fence.wide 3 Tryz.prog Tryz.f9 _ _ ({ target:=.collected (wr.heap.size+1+1+1),args:=#[] } :: ds) .returning _
    rw [hks]
    have hbz:w.heap.size+1+1<wB.heap.size:=HBB.out.2.2.lt
    refine leaves_marks ks _ hkn (fun k hk=>(HK.out k hk).1) (fun w' hw'=>?_)
    have hb9:Box Wn (w.heap.size+1+1) 29 #[.slice none 0 0]:=HBB.out.2.2.mono HBF.out lr
    have hb10:Box w' (w.heap.size+1+1) 29 #[.slice none 0 0]:=hb9.keep (hw'.block _ hb9.lt (fun e=>by have:=(HK.out _ e).2;omega))
    exact ⟨_,res9 rfl (hb10.cell 0),_,rfl,by rw [HF.out];exact OutP.nil _ _,(HBB.out.1.trans (HBF.out.mono (by omega))).trans (hw'.below (by have:=HBF.out.size;omega) (fun k hk e=>by have:=(HK.out _ e).2;omega))⟩
  ·have hik:i=v.k:=by omega
   subst hik
   obtain ⟨ao,co,hvo⟩:=HR.out.od.out.val
   subst hvo
   have y1:wr.cell? ⟨wB.heap.size+1,0,none⟩=some (.slice ao (routesOf (v.all v.k)).length co):=HR.out.o.cell 0
   have hb9:Box wr (w.heap.size+1+1) 29 #[.slice none 0 0]:=HBB.out.2.2.mono HR.out.bel lr
   have y2:wr.cell? ⟨w.heap.size+1+1,0,none⟩=some (.slice none 0 0):=hb9.cell 0
   have g2:=hb9.free 0
   have HB9:Hid (Box wr (w.heap.size+1+1) 29 #[.slice none 0 0]):=hb9
   clear hb9
   go_wp2_with fail
   obtain ⟨ks,hds,hkn,hk2⟩:=HR.out.mks.ks
   subst hds
   have hbz:w.heap.size+1+1<wB.heap.size:=HBB.out.2.2.lt
   show LeavesInM Fence.wide 3 Tryz.prog Tryz.f9 _ _ (ks.map fun k=>{ target:=.collected k,args:=#[] }) .returning _
   refine leaves_marks ks _ hkn (fun k hk=>(Below.heap_setCell wr _ _ k (show k≠w.heap.size+1+1 by have:=(hk2 k hk).2.1;omega)).trans (hk2 k hk).1) (fun w' hw'=>?_)
   have hb9:=HB9.out.set 0 (.slice ao (routesOf (v.all v.k)).length co)
   have hb10:Box w' (w.heap.size+1+1) 29 #[.slice ao (routesOf (v.all v.k)).length co]:=hb9.keep (hw'.block _ hb9.lt (fun e=>by have:=(hk2 _ e).2.1;omega))
   have ef:routesF v=routesOf (v.all v.k):=by unfold routesF;rw [if_pos ⟨HR.out.m,HR.out.k⟩]
   have hwb:wB.heap.size≤wr.heap.size:=HR.out.bel.size
   have eb:Below w.heap.size w (wr.setCell ⟨w.heap.size+1+1,0,none⟩ (.slice ao (routesOf (v.all v.k)).length co)):=(HBB.out.1.trans (HR.out.bel.mono (by omega))).setCell (p:=⟨w.heap.size+1+1,0,none⟩) (show w.heap.size≤w.heap.size+1+1 by omega) _
   refine ⟨_,res9 rfl (hb10.cell 0),_,rfl,?_,eb.trans (hw'.below (by rw [size_setc];omega) (fun k hk e=>by have:=(hk2 _ e).2.1;omega))⟩
   rw [ef]
   refine OutP.lower (B:=wB.heap.size) ((HR.out.od.keep fun k hk=>?_).outP) (by omega)
   have hl:=HR.out.lt k hk.1
   exact (hw'.block k (by rw [size_setc];exact hl.2) (fun e=>(hk2 k e).2.2 hk.1)).trans (Below.heap_setCell wr _ _ k (show k≠w.heap.size+1+1 by omega))
end Go.Proofs.YtkhaehpobpkkiaaGreat
