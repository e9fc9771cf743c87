import Derived.Test.YtkeilejbelblcaaGreatDoorRows
import Derived.Test.YtkeilejbelblcaaGreatDoorJad
import Derived.Test.YtkeilejbelblcaaGreatDoorEb
namespace Go.Proofs.YtkeilejbelblcaaGreatDoor
open Go.ChangeShapes Go.WideShapes Go.ChangeAt Go.RowKit Go.Joins Go.Deep
theorem list3 {α:Type}{l:List α}(h:l.length=3):∃a b c,l= [a,b,c]:=by
 match l,h with
 | [a,b,c],_=>exact⟨a,b,c,rfl⟩
theorem cells48:Tryz.prog.cellsOf 48=3:=by kernel_rfl
theorem open_event {H:Type}{enc:TypeId×Value->H}{w:World}{base:Nat}{spare:Nat->Bool}{held:Bool}{n:Nat}{cs:List Value}{y:DataW H×List MemPlace}(h:DataW.trod enc Tryz.prog w base spare held n 48 cs=some y):∃op o lie:Int,cs= [.int .i64 op,.int .i64 o,.int .i64 lie]:=by
 obtain⟨y0,y1,y2,k,_,hl,h0,h1,h2⟩:=trod_struct3 Tryz.underlying48 h
 obtain⟨v0,v1,v2,rfl⟩:=list3 (hl.trans cells48)
 simp only[cells3,List.drop_zero,List.drop_succ_cons,List.take_succ_cons,List.take_zero] at h0 h1 h2
 obtain⟨a,e0⟩:=open_int1 h0
 obtain⟨b,e1⟩:=open_int1 h1
 obtain⟨c,e2⟩:=open_int1 h2
 simp only[List.cons.injEq,and_true] at e0 e1 e2
 exact⟨a,b,c,by rw[e0,e1,e2]⟩
set_option maxRecDepth 100000 in
theorem open_eventV {H:Type}{enc:TypeId×Value->H}{w:World}{base:Nat}{spare:Nat->Bool}{held:Bool}{r:Reach}{b0:Nat}{v:Value}{d:DataW H}{q:List MemPlace}(hv:Value.okWide Tryz.prog w r b0 48 v) (h:DataW.Trod enc Tryz.prog w base spare held 48 v d q):
  ∃op o lie:Int,v=.agg #[.int .i64 op,.int .i64 o,.int .i64 lie]:=by
 obtain⟨cs,rfl,hsz⟩:=okWide_struct Tryz.underlying48 hv
 obtain⟨fuel,hf⟩:=h
 obtain⟨op,o,lie,he⟩:=open_event hf
 refine⟨op,o,lie,?_⟩
 have :cs.toList=_:=he
 rw[←Array.toArray_toList (xs:=cs),this]
theorem gl0:Tryz.prog.globalNamed "loop.example/signalbox/impl.errNone" =some 0:=by kernel_rfl
theorem gt0:(Tryz.prog.globals[0]?).map (·.type)=some 86:=by kernel_rfl
theorem gl1:Tryz.prog.globalNamed "loop.example/signalbox/impl.errHeld" =some 1:=by kernel_rfl
theorem gt1:(Tryz.prog.globals[1]?).map (·.type)=some 86:=by kernel_rfl
theorem gl2:Tryz.prog.globalNamed "loop.example/signalbox/impl.errBarred" =some 2:=by kernel_rfl
theorem gt2:(Tryz.prog.globals[2]?).map (·.type)=some 86:=by kernel_rfl
theorem gl3:Tryz.prog.globalNamed "loop.example/signalbox/impl.errFilled" =some 3:=by kernel_rfl
theorem gt3:(Tryz.prog.globals[3]?).map (·.type)=some 86:=by kernel_rfl
theorem gl4:Tryz.prog.globalNamed "loop.example/signalbox/impl.errWanted" =some 4:=by kernel_rfl
theorem gt4:(Tryz.prog.globals[4]?).map (·.type)=some 86:=by kernel_rfl
theorem gl5:Tryz.prog.globalNamed "loop.example/signalbox/impl.errUnder" =some 5:=by kernel_rfl
theorem gt5:(Tryz.prog.globals[5]?).map (·.type)=some 86:=by kernel_rfl
theorem gl6:Tryz.prog.globalNamed "loop.example/signalbox/impl.errNotSet" =some 6:=by kernel_rfl
theorem gt6:(Tryz.prog.globals[6]?).map (·.type)=some 86:=by kernel_rfl
theorem cellsE:Tryz.prog.cellsOf 278=1:=by kernel_rfl
theorem cellsS:Tryz.prog.cellsOf 9=1:=by kernel_rfl
theorem starE: "*" ++ "errors.errorString" = "*errors.errorString" :=by decide
theorem rowE (u:TypeId) (h:Tryz.prog.typeName? 3 u=some "*errors.errorString"):u=251:=
 typeName_ptr_named (nm:= "errors.errorString") (by rw[starE];kernel_rfl) (by kernel_rfl) (by decide) u (by rw[starE];exact h)
noncomputable def low:Nat:=(World.holding Tryz.prog default ⟨#[],#[],[]⟩).heap.size
noncomputable def setG (h:Array Obj) (g k:Nat):Array Obj:=h.modify g fun
 | .cells _ t frozen=>.cells #[.iface 251 (.pointer (some (ad (low+k) 0)))] t frozen
 |o=>o
noncomputable def lw4 (os:Os):World:=
 let w0:=World.holding Tryz.prog os ⟨#[.cells #[.string ⟨#[116,104,101,114,101,32,105,115,32,110,111,32,115,117,99,104,32,102,114,97,109,101,44,32,119,97,121,32,111,114,32,101,118,101,110,116]⟩] 278,.cells #[.string ⟨#[116,104,101,32,119,97,121,32,105,115,32,104,101,108,100]⟩] 278,.cells #[.string ⟨#[97,110,111,116,104,101,114,32,104,101,108,100,32,119,97,121,32,101,120,99,108,117,100,101,115,32,116,104,101,32,119,97,121]⟩] 278,.cells #[.string ⟨#[115,111,109,101,98,111,100,121,32,105,115,32,105,110,32,97,32,115,101,99,116,105,111,110,32,111,102,32,116,104,101,32,119,97,121]⟩] 278,.cells #[.string ⟨#[97,32,119,97,121,32,119,97,110,116,115,32,116,104,101,32,115,119,105,116,99,104]⟩] 278,.cells #[.string ⟨#[115,111,109,101,98,111,100,121,32,105,115,32,105,110,32,116,104,101,32,115,101,99,116,105,111,110,32,111,102,32,116,104,101,32,115,119,105,116,99,104]⟩] 278,.cells #[.string ⟨#[116,104,101,32,119,97,121,32,105,115,32,110,101,105,116,104,101,114,32,115,101,116,32,110,111,114,32,99,108,101,97,114]⟩] 278],#[],[]⟩
 {w0 with heap:=setG (setG (setG (setG (setG (setG (setG (w0.heap) 0 0) 1 1) 2 2) 3 3) 4 4) 5 5) 6 6}
theorem lwMet4 (os:Os) (args:Array Value):laidMet Tryz.prog Rows.fnExactDoFrameRow.laid ((lw4 os).forCall (fun _ _=>0) ⟨#[],args,[]⟩).memory:=
 laidMet_of_run (ps:= [.cell 0 0,.cell (low+0) 0,.cell 1 0,.cell (low+1) 0,.cell 2 0,.cell (low+2) 0,.cell 3 0,.cell (low+3) 0,.cell 4 0,.cell (low+4) 0,.cell 5 0,.cell (low+5) 0,.cell 6 0,.cell (low+6) 0]) 8 (by kernel_rfl) (by kernel_rfl) (by kernel_rfl)
set_option maxRecDepth 100000 in
theorem lifted4 (os:Os) (started:os.Started) (H:Type) (enc:TypeId×Value->H):
  ReturnsInHanded {} Tryz.checked os 4 .any (fun w args=>(Rows.fnExactDoFrameSpec.pre enc Tryz.prog Tryz.f4 [] false w args/\laidMet Tryz.prog Rows.fnExactDoFrameRow.laid w)/\sizedMet enc Tryz.prog Tryz.f4 (OpenSpec.ofChange Rows.fnExactDoFrameSpec) false w args)
   (Rows.fnExactDoFrameSpec.post enc Tryz.prog Tryz.f4 false true false false):=by
 refine returnsInHanded_of_change_and (C:=Tryz.checked) (X:=fun w _=>laidMet Tryz.prog Rows.fnExactDoFrameRow.laid w) (fun _ _ _ hh h=>h.of_heap hh) own started (by kernel_rfl) Tryz.func4
  (ChangeSpec.witness_at (enc:=enc) (C:=Tryz.checked) (os:=os) (X:=fun w _=>laidMet Tryz.prog Rows.fnExactDoFrameRow.laid w) false (lw4 os) #[.agg #[.int .i64 0,.slice none 0 0,.slice none 0 0,.slice none 0 0,.int .i64 0],.agg #[.bool false,.slice none 0 0,.slice none 0 0,.slice none 0 0],.agg #[.int .i64 0,.int .i64 0,.int .i64 0]] 8 rfl (by kernel_rfl) (by kernel_rfl) (by kernel_rfl) (by kernel_rfl) (by kernel_rfl) (lwMet4 os _)) ?_
 intro W base args ds gs before hval0 hW _ _ hL _
 have hval:∀(j:Nat) t v,Tryz.f4.params[j]?=some t->args[j]?=some v->Value.okWide Tryz.prog W .any base t v:=hval0
 have hW':=hW
 obtain⟨p,q,hA0,hV0,rfl,hfz,hnd⟩:=hW
 have hA:DataW.TrodAll enc Tryz.prog W 0 (fun _=>true) true Tryz.f4.params.toList args.toList ds p:=hA0
 have hV:DataW.TrodVars enc Tryz.prog W (fun _=>true) ["loop.example/signalbox/impl.errNone", "loop.example/signalbox/impl.errHeld", "loop.example/signalbox/impl.errBarred", "loop.example/signalbox/impl.errFilled", "loop.example/signalbox/impl.errWanted", "loop.example/signalbox/impl.errUnder", "loop.example/signalbox/impl.errNotSet"] gs q:=hV0
 rw[Tryz.params4] at hA hval
 obtain⟨v0,vs0,d0,ds0,p0,q0,ha0,rfl,rfl,h0,r0⟩:=trodAll_cons hA
 obtain⟨v1,vs1,d1,ds1,p1,q1,rfl,rfl,rfl,h1,r1⟩:=trodAll_cons r0
 obtain⟨v2,vs2,d2,ds2,p2,q2,rfl,rfl,rfl,h2,r2⟩:=trodAll_cons r1
 obtain⟨rfl,rfl,rfl⟩:=trodAll_nil r2
 obtain rfl:args=#[v0,v1,v2]:=by cases args;simp_all
 obtain⟨ps,hps,hpn,hpr⟩:=hL
 obtain⟨A,hAll,hInj⟩:=laid_all (P:=Tryz.prog) (W:=W) Tryz.underlying86 rowE Tryz.underlying251 Tryz.underlying278 rfl rfl Tryz.underlying9 cellsE cellsS [("loop.example/signalbox/impl.errNone",[116,104,101,114,101,32,105,115,32,110,111,32,115,117,99,104,32,102,114,97,109,101,44,32,119,97,121,32,111,114,32,101,118,101,110,116]),("loop.example/signalbox/impl.errHeld",[116,104,101,32,119,97,121,32,105,115,32,104,101,108,100]),("loop.example/signalbox/impl.errBarred",[97,110,111,116,104,101,114,32,104,101,108,100,32,119,97,121,32,101,120,99,108,117,100,101,115,32,116,104,101,32,119,97,121]),("loop.example/signalbox/impl.errFilled",[115,111,109,101,98,111,100,121,32,105,115,32,105,110,32,97,32,115,101,99,116,105,111,110,32,111,102,32,116,104,101,32,119,97,121]),("loop.example/signalbox/impl.errWanted",[97,32,119,97,121,32,119,97,110,116,115,32,116,104,101,32,115,119,105,116,99,104]),("loop.example/signalbox/impl.errUnder",[115,111,109,101,98,111,100,121,32,105,115,32,105,110,32,116,104,101,32,115,101,99,116,105,111,110,32,111,102,32,116,104,101,32,115,119,105,116,99,104]),("loop.example/signalbox/impl.errNotSet",[116,104,101,32,119,97,121,32,105,115,32,110,101,105,116,104,101,114,32,115,101,116,32,110,111,114,32,99,108,101,97,114])] ps hps hpn hpr (fun x hx=>by
  simp only[List.mem_cons,List.not_mem_nil,or_false] at hx
  rcases hx with rfl|rfl|rfl|rfl|rfl|rfl|rfl
  ·
   exact⟨0,gl0,gt0⟩
  ·
   exact⟨1,gl1,gt1⟩
  ·
   exact⟨2,gl2,gt2⟩
  ·
   exact⟨3,gl3,gt3⟩
  ·
   exact⟨4,gl4,gt4⟩
  ·
   exact⟨5,gl5,gt5⟩
  ·
   exact⟨6,gl6,gt6⟩)
 obtain⟨hv0,_,hb0⟩:=hAll 0 _ rfl
 obtain⟨hv1,_,hb1⟩:=hAll 1 _ rfl
 obtain⟨hv2,_,hb2⟩:=hAll 2 _ rfl
 obtain⟨hv3,_,hb3⟩:=hAll 3 _ rfl
 obtain⟨hv4,_,hb4⟩:=hAll 4 _ rfl
 obtain⟨hv5,_,hb5⟩:=hAll 5 _ rfl
 obtain⟨hv6,_,hb6⟩:=hAll 6 _ rfl
 have hR:∀(sp:Nat->Bool) W',(∀i x,([("loop.example/signalbox/impl.errNone",[116,104,101,114,101,32,105,115,32,110,111,32,115,117,99,104,32,102,114,97,109,101,44,32,119,97,121,32,111,114,32,101,118,101,110,116]),("loop.example/signalbox/impl.errHeld",[116,104,101,32,119,97,121,32,105,115,32,104,101,108,100]),("loop.example/signalbox/impl.errBarred",[97,110,111,116,104,101,114,32,104,101,108,100,32,119,97,121,32,101,120,99,108,117,100,101,115,32,116,104,101,32,119,97,121]),("loop.example/signalbox/impl.errFilled",[115,111,109,101,98,111,100,121,32,105,115,32,105,110,32,97,32,115,101,99,116,105,111,110,32,111,102,32,116,104,101,32,119,97,121]),("loop.example/signalbox/impl.errWanted",[97,32,119,97,121,32,119,97,110,116,115,32,116,104,101,32,115,119,105,116,99,104]),("loop.example/signalbox/impl.errUnder",[115,111,109,101,98,111,100,121,32,105,115,32,105,110,32,116,104,101,32,115,101,99,116,105,111,110,32,111,102,32,116,104,101,32,115,119,105,116,99,104]),("loop.example/signalbox/impl.errNotSet",[116,104,101,32,119,97,121,32,105,115,32,110,101,105,116,104,101,114,32,115,101,116,32,110,111,114,32,99,108,101,97,114])]:List (String×List UInt8))[i]?=some x->W'.var? Tryz.prog x.1=some #[.iface 251 (.pointer (some (A i)))])->DataW.TrodVars enc Tryz.prog W' sp ["loop.example/signalbox/impl.errNone", "loop.example/signalbox/impl.errHeld", "loop.example/signalbox/impl.errBarred", "loop.example/signalbox/impl.errFilled", "loop.example/signalbox/impl.errWanted", "loop.example/signalbox/impl.errUnder", "loop.example/signalbox/impl.errNotSet"] _ _:=fun sp W' hq=>
  vars_readN enc Tryz.underlying86 sp [("loop.example/signalbox/impl.errNone",0,.iface 251 (.pointer (some (A 0)))),("loop.example/signalbox/impl.errHeld",1,.iface 251 (.pointer (some (A 1)))),("loop.example/signalbox/impl.errBarred",2,.iface 251 (.pointer (some (A 2)))),("loop.example/signalbox/impl.errFilled",3,.iface 251 (.pointer (some (A 3)))),("loop.example/signalbox/impl.errWanted",4,.iface 251 (.pointer (some (A 4)))),("loop.example/signalbox/impl.errUnder",5,.iface 251 (.pointer (some (A 5)))),("loop.example/signalbox/impl.errNotSet",6,.iface 251 (.pointer (some (A 6))))] (fun x hx=>by
   simp only[List.mem_cons,List.not_mem_nil,or_false] at hx
   rcases hx with rfl|rfl|rfl|rfl|rfl|rfl|rfl
   ·
    exact⟨gl0,gt0,hq 0 _ rfl,trivial⟩
   ·
    exact⟨gl1,gt1,hq 1 _ rfl,trivial⟩
   ·
    exact⟨gl2,gt2,hq 2 _ rfl,trivial⟩
   ·
    exact⟨gl3,gt3,hq 3 _ rfl,trivial⟩
   ·
    exact⟨gl4,gt4,hq 4 _ rfl,trivial⟩
   ·
    exact⟨gl5,gt5,hq 5 _ rfl,trivial⟩
   ·
    exact⟨gl6,gt6,hq 6 _ rfl,trivial⟩)
 obtain⟨rfl,rfl⟩:=hV.unique (hR (fun _=>true) W fun i x hx=>(hAll i x hx).1)
 have hc0:W.cell? (ad 0 0)=some (.iface 251 (.pointer (some (A 0)))):=by simpa using World.var?_cell gl0 hv0 0
 have hc1:W.cell? (ad 1 0)=some (.iface 251 (.pointer (some (A 1)))):=by simpa using World.var?_cell gl1 hv1 0
 have hc2:W.cell? (ad 2 0)=some (.iface 251 (.pointer (some (A 2)))):=by simpa using World.var?_cell gl2 hv2 0
 have hc3:W.cell? (ad 3 0)=some (.iface 251 (.pointer (some (A 3)))):=by simpa using World.var?_cell gl3 hv3 0
 have hc4:W.cell? (ad 4 0)=some (.iface 251 (.pointer (some (A 4)))):=by simpa using World.var?_cell gl4 hv4 0
 have hc5:W.cell? (ad 5 0)=some (.iface 251 (.pointer (some (A 5)))):=by simpa using World.var?_cell gl5 hv5 0
 have hc6:W.cell? (ad 6 0)=some (.iface 251 (.pointer (some (A 6)))):=by simpa using World.var?_cell gl6 hv6 0
 have hl0:0<W.heap.size:=World.block_lt_of_cell? W _ hc0
 have hl1:1<W.heap.size:=World.block_lt_of_cell? W _ hc1
 have hl2:2<W.heap.size:=World.block_lt_of_cell? W _ hc2
 have hl3:3<W.heap.size:=World.block_lt_of_cell? W _ hc3
 have hl4:4<W.heap.size:=World.block_lt_of_cell? W _ hc4
 have hl5:5<W.heap.size:=World.block_lt_of_cell? W _ hc5
 have hl6:6<W.heap.size:=World.block_lt_of_cell? W _ hc6
 have k0:=h0
 have k1:=h1
 have k2:=h2
 have lt0:∀x ∈ p0,x.block<W.heap.size:=by obtain⟨m,hm⟩:=k0;exact DataW.trod_lt m _ _ _ hm
 have lt1:∀x ∈ p1,x.block<W.heap.size:=by obtain⟨m,hm⟩:=k1;exact DataW.trod_lt m _ _ _ hm
 have lt2:∀x ∈ p2,x.block<W.heap.size:=by obtain⟨m,hm⟩:=k2;exact DataW.trod_lt m _ _ _ hm
 obtain⟨pl,wa,ya,ba,wc,yc,bc,rfl,hf,hP⟩:=open_planV (hval 0 26 v0 rfl rfl) h0
 obtain⟨fr,oa,pa,ha,oc,pc,hc,rfl,hff,hF⟩:=open_frameV (hval 1 31 v1 rfl rfl) h1
 obtain⟨op,o,lie,rfl⟩:=open_eventV (hval 2 48 v2 rfl rfl) h2
 clear hA0 hV0 hval0
 have hSn:Sn W 7 A:=by
  refine⟨fun i hi=>?_,fun i j hi hj=>hInj i j (Nat.lt_of_lt_of_le hi (by decide)) (Nat.lt_of_lt_of_le hj (by decide)),fun i hi=>?_,by omega⟩
  ·
   match i,hi with
   |0,_=>exact hc0
   |1,_=>exact hc1
   |2,_=>exact hc2
   |3,_=>exact hc3
   |4,_=>exact hc4
   |5,_=>exact hc5
   |6,_=>exact hc6
  ·
   match i,hi with
   |0,_=>exact hb0
   |1,_=>exact hb1
   |2,_=>exact hb2
   |3,_=>exact hb3
   |4,_=>exact hb4
   |5,_=>exact hb5
   |6,_=>exact hb6
 refine(law4 pl fr wa ya ba wc yc bc oa pa ha oc pc hc A op o lie W hf hff hP hF hSn).mono fun e W' ⟨he,bel⟩=>?_
 subst he
 have hvs:∀i x,([("loop.example/signalbox/impl.errNone",[116,104,101,114,101,32,105,115,32,110,111,32,115,117,99,104,32,102,114,97,109,101,44,32,119,97,121,32,111,114,32,101,118,101,110,116]),("loop.example/signalbox/impl.errHeld",[116,104,101,32,119,97,121,32,105,115,32,104,101,108,100]),("loop.example/signalbox/impl.errBarred",[97,110,111,116,104,101,114,32,104,101,108,100,32,119,97,121,32,101,120,99,108,117,100,101,115,32,116,104,101,32,119,97,121]),("loop.example/signalbox/impl.errFilled",[115,111,109,101,98,111,100,121,32,105,115,32,105,110,32,97,32,115,101,99,116,105,111,110,32,111,102,32,116,104,101,32,119,97,121]),("loop.example/signalbox/impl.errWanted",[97,32,119,97,121,32,119,97,110,116,115,32,116,104,101,32,115,119,105,116,99,104]),("loop.example/signalbox/impl.errUnder",[115,111,109,101,98,111,100,121,32,105,115,32,105,110,32,116,104,101,32,115,101,99,116,105,111,110,32,111,102,32,116,104,101,32,115,119,105,116,99,104]),("loop.example/signalbox/impl.errNotSet",[116,104,101,32,119,97,121,32,105,115,32,110,101,105,116,104,101,114,32,115,101,116,32,110,111,114,32,99,108,101,97,114])]:List (String×List UInt8))[i]?=some x->W'.var? Tryz.prog x.1=some #[.iface 251 (.pointer (some (A i)))]:=fun i x hx=>by
  match i,hx with
  |0,hx=>obtain rfl:=Option.some.inj hx;exact var?_below bel gl0 hl0 hv0
  |1,hx=>obtain rfl:=Option.some.inj hx;exact var?_below bel gl1 hl1 hv1
  |2,hx=>obtain rfl:=Option.some.inj hx;exact var?_below bel gl2 hl2 hv2
  |3,hx=>obtain rfl:=Option.some.inj hx;exact var?_below bel gl3 hl3 hv3
  |4,hx=>obtain rfl:=Option.some.inj hx;exact var?_below bel gl4 hl4 hv4
  |5,hx=>obtain rfl:=Option.some.inj hx;exact var?_below bel gl5 hl5 hv5
  |6,hx=>obtain rfl:=Option.some.inj hx;exact var?_below bel gl6 hl6 hv6
  |i+7,hx=>exact absurd hx (by simp)
 exact⟨_,rfl,_,_,_,[],_,_,hW',trodAll_mk1 (shut_bool Tryz.underlying4 _),(trodAll_cons_mk (Below.trod laidOut (by kernel_rfl) (of_decide_eq_true (by kernel_rfl)) k0 bel lt0) (trodAll_cons_mk (Below.trod laidOut (by kernel_rfl) (of_decide_eq_true (by kernel_rfl)) k1 bel lt1) (trodAll_cons_mk (Below.trod laidOut (by kernel_rfl) (of_decide_eq_true (by kernel_rfl)) k2 bel lt2) trodAll_mk0))),hR _ W' hvs,bel.frame _,fun h=>by cases h⟩
theorem over4:Rows.FnExactDoFrameSaid:=
 OpenClaim.holds_of_wide 4 Tryz.f4 rfl rfl rfl rfl rfl rfl rfl ⟨rfl,rfl,rfl,rfl,rfl⟩ rfl rfl rfl rfl rfl (by kernel_rfl) Tryz.func4 (by kernel_rfl)
  (of_decide_eq_true (by kernel_rfl)) (by unfold Func.isWrapper;first |(rw[if_pos (by decide+kernel)];kernel_rfl)|(rw[if_neg (by decide+kernel)];exact⟨rfl,rfl⟩))
  (fun os started H enc _=>lifted4 os started H enc)
end Go.Proofs.YtkeilejbelblcaaGreatDoor
