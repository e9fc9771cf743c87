import Derived.Deep.RegionHeld3
import Derived.Deep.CutBlock
import Derived.Deep.WholeRow
import Derived.RangeFuncNested
import Derived.Test.YtkhaehpobpkkiaaGreatId
import Derived.Test.YtkhaehpobpkkiaaGreatI7
import Derived.Test.YtkhaehpobpkkiaaGreatNc
namespace Go.Proofs.YtkhaehpobpkkiaaGreat
open Go.RowKit
theorem _root_.Go.RowKit.Below.al {w X:World}(h:Below w.heap.size w X)(o:Obj):Below w.heap.size w (X.alloc o):=h.alloc h.size o
theorem _root_.Go.RowKit.Below.nx {w X Y:World}(h:Below w.heap.size w X)(hb:Below X.heap.size X Y):Below w.heap.size w Y:=h.trans (hb.mono h.size)
structure RtF (w0 W:World)(q:Nat)(fr tt:Int)(t:Tl)(a1 a2 a3 a4:Option Addr)(c1 c2 c3 c4:Nat)(ov fv:Value)(ovl fl:List Rw):Prop where
 bel:Below w0.heap.size w0 W
 box:Box W q 64 #[.int .i64 fr,.int .i64 tt,.slice a1 t.st.length c1,.slice a2 t.li.length c2,.slice a3 t.cr.length c3,.slice a4 t.pa.length c4,ov,fv]
 s:Own w0.heap.size 100 2 W (.slice a1 t.st.length c1) t.st
 l:Own w0.heap.size 136 2 W (.slice a2 t.li.length c2) t.li
 x:Own w0.heap.size 3 1 W (.slice a3 t.cr.length c3) t.cr
 pt:Own w0.heap.size 104 3 W (.slice a4 t.pa.length c4) t.pa
 o:Own w0.heap.size 104 3 W ov ovl
 f:Own w0.heap.size 155 4 W fv fl
 ge:w0.heap.size≤q
 ap:∀ k,(Value.slice a4 t.pa.length c4).ownBlock=some k→ov.ownBlock≠some k
theorem RtF.mono {w0 W W':World}{q:Nat}{fr tt:Int}{t:Tl}{a1 a2 a3 a4:Option Addr}{c1 c2 c3 c4:Nat}{ov fv:Value}{ovl fl:List Rw}(h:RtF w0 W q fr tt t a1 a2 a3 a4 c1 c2 c3 c4 ov fv ovl fl)(hb:Below W.heap.size W W'):RtF w0 W' q fr tt t a1 a2 a3 a4 c1 c2 c3 c4 ov fv ovl fl:=
 ⟨h.bel.nx hb,h.box.mono hb lr,h.s.mono lr hb lr,h.l.mono lr hb lr,h.x.mono lr hb lr,h.pt.mono lr hb lr,h.o.mono lr hb lr,h.f.mono lr hb lr,h.ge,h.ap⟩
theorem Own.set8 {B:Nat}{e:TypeId}{c:Nat}{w:World}{v:Value}{l:List Rw}{b:Nat}{T:TypeId}{vs:Array Value}(h:Own B e c w v l)(hb:Box w b T vs)(hT:T≠e)(a0 a1 a2 a3 a4 a5 a6 a7:Value):Own B e c (set8 w b a0 a1 a2 a3 a4 a5 a6 a7) v l:=
 h.keep lr fun _ hg=>set8_keep w b a0 a1 a2 a3 a4 a5 a6 a7 (h.off hb hT hg)
theorem RtF.laid {w0 W:World}{q:Nat}{fr tt:Int}{t:Tl}{a1 a2 a3 a4:Option Addr}{c1 c2 c3 c4:Nat}(hb:Below w0.heap.size w0 W)(hV:Box W q 64 #[.int .i64 0,.int .i64 0,.slice none 0 0,.slice none 0 0,.slice none 0 0,.slice none 0 0,.slice none 0 0,.slice none 0 0])(hq:w0.heap.size≤q)(h1:Own w0.heap.size 100 2 W (.slice a1 t.st.length c1) t.st)(h2:Own w0.heap.size 136 2 W (.slice a2 t.li.length c2) t.li)(h3:Own w0.heap.size 3 1 W (.slice a3 t.cr.length c3) t.cr)(h4:Own w0.heap.size 104 3 W (.slice a4 t.pa.length c4) t.pa):
 RtF w0 ((((((((W.setCell ⟨q,0,none⟩ (.int .i64 fr)).setCell ⟨q,1,none⟩ (.int .i64 tt)).setCell ⟨q,2,none⟩ (.slice a1 t.st.length c1)).setCell ⟨q,3,none⟩ (.slice a2 t.li.length c2)).setCell ⟨q,4,none⟩ (.slice a3 t.cr.length c3)).setCell ⟨q,5,none⟩ (.slice a4 t.pa.length c4)).setCell ⟨q,6,none⟩ (.slice none 0 0)).setCell ⟨q,7,none⟩ (.slice none 0 0)) q fr tt t a1 a2 a3 a4 c1 c2 c3 c4 (.slice none 0 0) (.slice none 0 0) [] []:=
 ⟨set8_below hb hq _ _ _ _ _ _ _ _,hV.set8 _ _ _ _ _ _ _ _,h1.set8 hV (by decide) _ _ _ _ _ _ _ _,h2.set8 hV (by decide) _ _ _ _ _ _ _ _,h3.set8 hV (by decide) _ _ _ _ _ _ _ _,h4.set8 hV (by decide) _ _ _ _ _ _ _ _,Own.nil _ _ _ _,Own.nil _ _ _ _,hq,fun k _ e=>by simp [Value.ownBlock] at e⟩
theorem RtF.new {w0 W:World}{fr tt:Int}{t:Tl}{a1 a2 a3 a4:Option Addr}{c1 c2 c3 c4:Nat}(hb:Below w0.heap.size w0 W)(h1:Own w0.heap.size 100 2 W (.slice a1 t.st.length c1) t.st)(h2:Own w0.heap.size 136 2 W (.slice a2 t.li.length c2) t.li)(h3:Own w0.heap.size 3 1 W (.slice a3 t.cr.length c3) t.cr)(h4:Own w0.heap.size 104 3 W (.slice a4 t.pa.length c4) t.pa):
 RtF w0 (W.alloc (.cells #[.int .i64 fr,.int .i64 tt,.slice a1 t.st.length c1,.slice a2 t.li.length c2,.slice a3 t.cr.length c3,.slice a4 t.pa.length c4,.slice none 0 0,.slice none 0 0] 64)) W.heap.size fr tt t a1 a2 a3 a4 c1 c2 c3 c4 (.slice none 0 0) (.slice none 0 0) [] []:=
 ⟨hb.al _,Box.new W 64 _,h1.alloc _,h2.alloc _,h3.alloc _,h4.alloc _,Own.nil _ _ _ _,Own.nil _ _ _ _,hb.size,fun k _ e=>by simp [Value.ownBlock] at e⟩
theorem RtF.setO {w0 W:World}{q:Nat}{fr tt:Int}{t:Tl}{a1 a2 a3 a4:Option Addr}{c1 c2 c3 c4:Nat}{ov fv:Value}{ovl fl:List Rw}(h:RtF w0 W q fr tt t a1 a2 a3 a4 c1 c2 c3 c4 ov fv ovl fl){ov':Value}{ovl':List Rw}(ho:Own w0.heap.size 104 3 W ov' ovl')(hap:∀ k,(Value.slice a4 t.pa.length c4).ownBlock=some k→ov'.ownBlock≠some k):RtF w0 (W.setCell ⟨q,6,none⟩ ov') q fr tt t a1 a2 a3 a4 c1 c2 c3 c4 ov' fv ovl' fl:=
 ⟨h.bel.setCell h.ge _,h.box.set 6 _,h.s.set h.box (by decide) 6 _,h.l.set h.box (by decide) 6 _,h.x.set h.box (by decide) 6 _,h.pt.set h.box (by decide) 6 _,ho.set h.box (by decide) 6 _,h.f.set h.box (by decide) 6 _,h.ge,hap⟩
theorem RtF.setF {w0 W:World}{q:Nat}{fr tt:Int}{t:Tl}{a1 a2 a3 a4:Option Addr}{c1 c2 c3 c4:Nat}{ov fv:Value}{ovl fl:List Rw}(h:RtF w0 W q fr tt t a1 a2 a3 a4 c1 c2 c3 c4 ov fv ovl fl){fv':Value}{fl':List Rw}(ho:Own w0.heap.size 155 4 W fv' fl'):RtF w0 (W.setCell ⟨q,7,none⟩ fv') q fr tt t a1 a2 a3 a4 c1 c2 c3 c4 ov fv' ovl fl':=
 ⟨h.bel.setCell h.ge _,h.box.set 7 _,h.s.set h.box (by decide) 7 _,h.l.set h.box (by decide) 7 _,h.x.set h.box (by decide) 7 _,h.pt.set h.box (by decide) 7 _,h.o.set h.box (by decide) 7 _,ho.set h.box (by decide) 7 _,h.ge,h.ap⟩
theorem zero143:Tryz.zeroCells143.size=204:=by kernel_rfl
theorem zero143L:Tryz.zeroCells143.toList=[.pointer none,.slice none 0 0,.int .i64 0] ++ (List.replicate 200 (.bool false) ++ [.slice none 0 0]):=by kernel_rfl
theorem size143:(Tryz.prog.info? 143).map (fun i=>i.size)=some 204:=by kernel_rfl
def lookVs (u0 u1 u2:Value):Array Value:=([u0,u1,u2] ++ (List.replicate 200 (Value.bool false) ++ [Value.slice none 0 0])).toArray
theorem lookVs_eq (u0 u1 u2:Value):lookVs u0 u1 u2=([u0,u1,u2] ++ (List.replicate 200 (Value.bool false) ++ [Value.slice none 0 0])).toArray:=rfl
theorem lookVs_size (u0 u1 u2:Value):(lookVs u0 u1 u2).size=204:=by
 rw [lookVs_eq,List.size_toArray,List.length_append,List.length_append,List.length_replicate]
 rfl
theorem lookStore (w:World)(u0 u1 u2:Value){q:Nat}(hq:w.heap.size=q)(h0:u0.oneCell'=true)(h1:u1.oneCell'=true)(h2:u2.oneCell'=true):
 Sem.run Tryz.prog (storeCells ⟨q,0,none⟩ (((Tryz.zeroCells143.toList.set 0 u0).set 1 u1).set 2 u2)) (w.alloc (.cells Tryz.zeroCells143 143))=.ok () (w.alloc (.cells (lookVs u0 u1 u2) 143)):=by
 subst hq
 have:=run_storeCells_new (P:=Tryz.prog) w 143 Tryz.zeroCells143 (lookVs u0 u1 u2) (by rw [lookVs_size];exact size143) (by rw [lookVs_size];exact zero143) (by
  rw [lookVs_eq,List.all_toArray,List.all_append,List.all_append,List.all_replicate]
  simp only [List.all_cons,h0,h1,h2,List.all_nil]
  rfl)
 have e:((Tryz.zeroCells143.toList.set 0 u0).set 1 u1).set 2 u2=(lookVs u0 u1 u2).toList:=by
  rw [zero143L]
  rfl
 rw [e]
 exact this
theorem lookVs_at (u0 u1 u2:Value):lookAt (lookVs u0 u1 u2) []:=by
 intro p s hp hs
 have e3:[u0,u1,u2].length=3:=rfl
 rw [lookVs_eq,List.getElem?_toArray,List.getElem?_append_right (by rw [e3];omega),e3,List.getElem?_append_left (by rw [List.length_replicate];omega),List.getElem?_replicate,if_pos (by omega)]
 rfl
theorem lookVs_203 (u0 u1 u2:Value):(lookVs u0 u1 u2)[203]?=some (.slice none 0 0):=by
 have e3:[u0,u1,u2].length=3:=rfl
 rw [lookVs_eq,List.getElem?_toArray,List.getElem?_append_right (by rw [e3];omega),e3,List.getElem?_append_right (by rw [List.length_replicate];omega),List.length_replicate]
 rfl
theorem lookVs_lo (u0 u1 u2:Value):(lookVs u0 u1 u2)[0]?=some u0∧(lookVs u0 u1 u2)[1]?=some u1∧(lookVs u0 u1 u2)[2]?=some u2:=by
 have e3:[u0,u1,u2].length=3:=rfl
 rw [lookVs_eq]
 refine ⟨?_,?_,?_⟩ <;> rw [List.getElem?_toArray,List.getElem?_append_left (by rw [e3];omega)] <;> rfl
theorem FkS.start {w0:World}{bt:Nat}{lv:Value}{j:Int}:FkS w0 bt w0.heap.size lv j (w0.alloc (.cells (lookVs (.pointer (some ⟨bt,0,none⟩)) lv (.int .i64 j)) 143)) (lookVs (.pointer (some ⟨bt,0,none⟩)) lv (.int .i64 j)) (.slice none 0 0) [] []:=
 ⟨bel1 w0 _,Nat.le_refl _,Box.new w0 143 _,(lookVs_lo _ _ _).1,(lookVs_lo _ _ _).2.1,(lookVs_lo _ _ _).2.2,lookVs_203 _ _ _,Own.nil _ _ _ _,lookVs_at _ _ _⟩
theorem res64 {fn:Func}{t:Tmp}{w:World}{q:Nat}{v0 v1 v2 v3 v4 v5 v6 v7:Value}{tmps:Array Value}(h:fn.results=#[.cell t 64])(ht:tmps.getD t undef=.pointer (some ⟨q,0,none⟩))(hB:Box w q 64 #[v0,v1,v2,v3,v4,v5,v6,v7]):(results fn tmps).run Tryz.prog w=.ok (.agg #[v0,v1,v2,v3,v4,v5,v6,v7]) w:=by
 have r0:w.cell? ⟨q,0,none⟩=some v0:=hB.cell 0
 have r1:w.cell? ⟨q,1,none⟩=some v1:=hB.cell 1
 have r2:w.cell? ⟨q,2,none⟩=some v2:=hB.cell 2
 have r3:w.cell? ⟨q,3,none⟩=some v3:=hB.cell 3
 have r4:w.cell? ⟨q,4,none⟩=some v4:=hB.cell 4
 have r5:w.cell? ⟨q,5,none⟩=some v5:=hB.cell 5
 have r6:w.cell? ⟨q,6,none⟩=some v6:=hB.cell 6
 have r7:w.cell? ⟨q,7,none⟩=some v7:=hB.cell 7
 have ht':tmps[t]?.getD undef=.pointer (some ⟨q,0,none⟩):=by simpa using ht
 simp [results,h,ht',go_sem,r0,r1,r2,r3,r4,r5,r6,r7]
theorem RtF.app {w0 W:World}{q:Nat}{fr tt:Int}{t:Tl}{a1 a2 a3 a4:Option Addr}{c1 c2 c3 c4:Nat}{ov fv:Value}{ovl fl:List Rw}(h:RtF w0 W q fr tt t a1 a2 a3 a4 c1 c2 c3 c4 ov fv ovl fl){W':World}{fv':Value}{fl':List Rw}(hg:W.grownBy W' fv.ownBlock)(ho:Own w0.heap.size 155 4 W' fv' fl'):RtF w0 (W'.setCell ⟨q,7,none⟩ fv') q fr tt t a1 a2 a3 a4 c1 c2 c3 c4 ov fv' ovl fl':=by
 have hb:Box W' q 64 #[.int .i64 fr,.int .i64 tt,.slice a1 t.st.length c1,.slice a2 t.li.length c2,.slice a3 t.cr.length c3,.slice a4 t.pa.length c4,ov,fv]:=h.box.grown hg (fun e=>h.f.off h.box (by decide) e rfl)
 exact ⟨(h.bel.grown hg h.bel.size (fun k e=>(h.f.lt e).1)).setCell h.ge _,hb.set 7 _,(h.s.grown hg (fun g hv e=>h.s.ne h.f (by decide) hv e)).set hb (by decide) 7 _,(h.l.grown hg (fun g hv e=>h.l.ne h.f (by decide) hv e)).set hb (by decide) 7 _,(h.x.grown hg (fun g hv e=>h.x.ne h.f (by decide) hv e)).set hb (by decide) 7 _,(h.pt.grown hg (fun g hv e=>h.pt.ne h.f (by decide) hv e)).set hb (by decide) 7 _,(h.o.grown hg (fun g hv e=>h.o.ne h.f (by decide) hv e)).set hb (by decide) 7 _,ho.set hb (by decide) 7 _,h.ge,h.ap⟩
def ovOf (v:Ev)(tt:Int):List Rw:=if 0≤tt then v.bey v.ov.toNat v.ov (v.S tt.toNat).ln.toNat (v.S tt.toNat).br (farI (v.P (v.S tt.toNat).ln.toNat).ln (v.S tt.toNat).sp (v.S tt.toNat).br) else []
set_option maxRecDepth 100000 in
set_option maxHeartbeats 16000000 in
theorem route31 {v:Ev}(ok:v.Ok){bt:Nat}{pa:Option Addr}{pc:Nat}{ja:Option Addr}{jc:Nat}{sa:Option Addr}{sc:Nat}(fr tt:Int)(dn:Bool)(t:Tl)(sa1 pa1 la1 xa1:Option Addr)(sc1 pc1 lc1 xc1:Nat)(w:World)(ht:TkAt w bt v pa pc ja jc sa sc)(h1:LsAt 2 0 w (.slice sa1 t.st.length sc1) t.st)(h4:LsAt 3 0 w (.slice pa1 t.pa.length pc1) t.pa)(h2:LsAt 2 0 w (.slice la1 t.li.length lc1) t.li)(h3:LsAt 1 0 w (.slice xa1 t.cr.length xc1) t.cr)(n1:t.st.length≤1048576)(n4:t.pa.length≤1048576)(n2:t.li.length≤200)(n3:t.cr.length≤1048576)(hli:LiOk v t.li)(hlk:LieK t.li)(hto:tt=-1∨(0≤tt∧tt<v.k)):
 Calls Tryz.prog 31 #[.pointer (some ⟨bt,0,none⟩),.int .i64 fr,.agg #[.slice sa1 t.st.length sc1,.slice pa1 t.pa.length pc1,.slice la1 t.li.length lc1,.slice xa1 t.cr.length xc1,.int .i64 tt,.bool dn],.int .i64 v.ov] w fun e w'=>∃ r1 r2 r3 r4 r5 r6,e=.returned (.agg #[.int .i64 fr,.int .i64 tt,r1,r2,r3,r4,r5,r6])∧Own w.heap.size 100 2 w' r1 t.st∧Own w.heap.size 136 2 w' r2 t.li∧Own w.heap.size 3 1 w' r3 t.cr∧Own w.heap.size 104 3 w' r4 t.pa∧Own w.heap.size 104 3 w' r5 (ovOf v tt)∧Own w.heap.size 155 4 w' r6 (v.fls t.li t.li)∧Below w.heap.size w w'∧(∀ k,r4.ownBlock=some k→r5.ownBlock≠some k)∧(v.fls t.li t.li).length≤300*t.li.length:=by
 have OK:Hid v.Ok:=ok
 have HT0:Hid (TkAt w bt v pa pc ja jc sa sc):=ht
 have HL0:Hid (LsAt 2 0 w (.slice sa1 t.st.length sc1) t.st∧LsAt 3 0 w (.slice pa1 t.pa.length pc1) t.pa∧LsAt 2 0 w (.slice la1 t.li.length lc1) t.li∧LsAt 1 0 w (.slice xa1 t.cr.length xc1) t.cr):=⟨h1,h4,h2,h3⟩
 have HLI:Hid (LiOk v t.li∧LieK t.li):=⟨hli,hlk⟩
 have HTO:Hid (tt=-1∨(0≤tt∧tt<v.k)):=hto
 clear ok ht h1 h2 h3 h4 hli hlk hto
 go_enter Tryz.func31,Tryz.ntmps31
 go_wp2_with fail
 have HB0:Hid (Below w.heap.size w ((w.alloc (.cells #[.slice sa1 t.st.length sc1,.slice pa1 t.pa.length pc1,.slice la1 t.li.length lc1,.slice xa1 t.cr.length xc1,.int .i64 tt,.bool dn] 78)).alloc (.cells #[.int .i64 0,.int .i64 0,.slice none 0 0,.slice none 0 0,.slice none 0 0,.slice none 0 0,.slice none 0 0,.slice none 0 0] 64))∧Box ((w.alloc (.cells #[.slice sa1 t.st.length sc1,.slice pa1 t.pa.length pc1,.slice la1 t.li.length lc1,.slice xa1 t.cr.length xc1,.int .i64 tt,.bool dn] 78)).alloc (.cells #[.int .i64 0,.int .i64 0,.slice none 0 0,.slice none 0 0,.slice none 0 0,.slice none 0 0,.slice none 0 0,.slice none 0 0] 64)) w.heap.size 78 #[.slice sa1 t.st.length sc1,.slice pa1 t.pa.length pc1,.slice la1 t.li.length lc1,.slice xa1 t.cr.length xc1,.int .i64 tt,.bool dn]∧Box ((w.alloc (.cells #[.slice sa1 t.st.length sc1,.slice pa1 t.pa.length pc1,.slice la1 t.li.length lc1,.slice xa1 t.cr.length xc1,.int .i64 tt,.bool dn] 78)).alloc (.cells #[.int .i64 0,.int .i64 0,.slice none 0 0,.slice none 0 0,.slice none 0 0,.slice none 0 0,.slice none 0 0,.slice none 0 0] 64)) (w.heap.size+1) 64 #[.int .i64 0,.int .i64 0,.slice none 0 0,.slice none 0 0,.slice none 0 0,.slice none 0 0,.slice none 0 0,.slice none 0 0]):=⟨bel2 w _ _,(Box.new w 78 _).alloc _,by have:=Box.new (w.alloc (.cells #[.slice sa1 t.st.length sc1,.slice pa1 t.pa.length pc1,.slice la1 t.li.length lc1,.slice xa1 t.cr.length xc1,.int .i64 tt,.bool dn] 78)) 64 #[.int .i64 0,.int .i64 0,.slice none 0 0,.slice none 0 0,.slice none 0 0,.slice none 0 0,.slice none 0 0,.slice none 0 0];rwa [World.size_alloc] at this⟩
 generalize ((w.alloc (.cells #[.slice sa1 t.st.length sc1,.slice pa1 t.pa.length pc1,.slice la1 t.li.length lc1,.slice xa1 t.cr.length xc1,.int .i64 tt,.bool dn] 78)).alloc (.cells #[.int .i64 0,.int .i64 0,.slice none 0 0,.slice none 0 0,.slice none 0 0,.slice none 0 0,.slice none 0 0,.slice none 0 0] 64))=w0 at HB0 ⊢
 have HT:Hid (TkAt w0 bt v pa pc ja jc sa sc):=HT0.out.mono HB0.out.1 lr
 have HL:Hid (LsAt 2 0 w0 (.slice sa1 t.st.length sc1) t.st∧LsAt 3 0 w0 (.slice pa1 t.pa.length pc1) t.pa∧LsAt 2 0 w0 (.slice la1 t.li.length lc1) t.li∧LsAt 1 0 w0 (.slice xa1 t.cr.length xc1) t.cr):=⟨HL0.out.1.mono lr HB0.out.1 lr,HL0.out.2.1.mono lr HB0.out.1 lr,HL0.out.2.2.1.mono lr HB0.out.1 lr,HL0.out.2.2.2.mono lr HB0.out.1 lr⟩
 clear HT0 HL0
 go_cut [9] from 13 (fun sx wx=>∃ q a1 a2 a3 a4 c1 c2 c3 c4,sx=.pointer (some ⟨q,0,none⟩)∧Hid (RtF w0 wx q fr tt t a1 a2 a3 a4 c1 c2 c3 c4 (.slice none 0 0) (.slice none 0 0) [] []))
 case first=>
  have HX0:Hid (Below w0.heap.size w0 w0.drew):=(Below.refl _ _).drew
  have HX0a:Hid (Below w0.heap.size w0 (w0.alloc (.cells #[.int .i64 0,.int .i64 0,.slice none 0 0,.slice none 0 0,.slice none 0 0,.slice none 0 0,.slice none 0 0,.slice none 0 0] 64)).drew):=(bel1 w0 _).drew
  have lt0:Hid (w.heap.size<w0.heap.size):=HB0.out.2.1.lt
  have d0:w0.drew.cell? ⟨w.heap.size,0,none⟩=some (.slice sa1 t.st.length sc1):=HB0.out.2.1.drew.cell 0
  have a0:(w0.alloc (.cells #[.int .i64 0,.int .i64 0,.slice none 0 0,.slice none 0 0,.slice none 0 0,.slice none 0 0,.slice none 0 0,.slice none 0 0] 64)).drew.cell? ⟨w.heap.size,0,none⟩=some (.slice sa1 t.st.length sc1):=(HB0.out.2.1.alloc (.cells #[.int .i64 0,.int .i64 0,.slice none 0 0,.slice none 0 0,.slice none 0 0,.slice none 0 0,.slice none 0 0,.slice none 0 0] 64)).drew.cell 0
  have d1:w0.drew.cell? ⟨w.heap.size,1,none⟩=some (.slice pa1 t.pa.length pc1):=HB0.out.2.1.drew.cell 1
  have a1:(w0.alloc (.cells #[.int .i64 0,.int .i64 0,.slice none 0 0,.slice none 0 0,.slice none 0 0,.slice none 0 0,.slice none 0 0,.slice none 0 0] 64)).drew.cell? ⟨w.heap.size,1,none⟩=some (.slice pa1 t.pa.length pc1):=(HB0.out.2.1.alloc (.cells #[.int .i64 0,.int .i64 0,.slice none 0 0,.slice none 0 0,.slice none 0 0,.slice none 0 0,.slice none 0 0,.slice none 0 0] 64)).drew.cell 1
  have d2:w0.drew.cell? ⟨w.heap.size,2,none⟩=some (.slice la1 t.li.length lc1):=HB0.out.2.1.drew.cell 2
  have a2:(w0.alloc (.cells #[.int .i64 0,.int .i64 0,.slice none 0 0,.slice none 0 0,.slice none 0 0,.slice none 0 0,.slice none 0 0,.slice none 0 0] 64)).drew.cell? ⟨w.heap.size,2,none⟩=some (.slice la1 t.li.length lc1):=(HB0.out.2.1.alloc (.cells #[.int .i64 0,.int .i64 0,.slice none 0 0,.slice none 0 0,.slice none 0 0,.slice none 0 0,.slice none 0 0,.slice none 0 0] 64)).drew.cell 2
  have d3:w0.drew.cell? ⟨w.heap.size,3,none⟩=some (.slice xa1 t.cr.length xc1):=HB0.out.2.1.drew.cell 3
  have a3:(w0.alloc (.cells #[.int .i64 0,.int .i64 0,.slice none 0 0,.slice none 0 0,.slice none 0 0,.slice none 0 0,.slice none 0 0,.slice none 0 0] 64)).drew.cell? ⟨w.heap.size,3,none⟩=some (.slice xa1 t.cr.length xc1):=(HB0.out.2.1.alloc (.cells #[.int .i64 0,.int .i64 0,.slice none 0 0,.slice none 0 0,.slice none 0 0,.slice none 0 0,.slice none 0 0,.slice none 0 0] 64)).drew.cell 3
  have d4:w0.drew.cell? ⟨w.heap.size,4,none⟩=some (.int .i64 tt):=HB0.out.2.1.drew.cell 4
  have a4:(w0.alloc (.cells #[.int .i64 0,.int .i64 0,.slice none 0 0,.slice none 0 0,.slice none 0 0,.slice none 0 0,.slice none 0 0,.slice none 0 0] 64)).drew.cell? ⟨w.heap.size,4,none⟩=some (.int .i64 tt):=(HB0.out.2.1.alloc (.cells #[.int .i64 0,.int .i64 0,.slice none 0 0,.slice none 0 0,.slice none 0 0,.slice none 0 0,.slice none 0 0,.slice none 0 0] 64)).drew.cell 4
  have d5:w0.drew.cell? ⟨w.heap.size,5,none⟩=some (.bool dn):=HB0.out.2.1.drew.cell 5
  have a5:(w0.alloc (.cells #[.int .i64 0,.int .i64 0,.slice none 0 0,.slice none 0 0,.slice none 0 0,.slice none 0 0,.slice none 0 0,.slice none 0 0] 64)).drew.cell? ⟨w.heap.size,5,none⟩=some (.bool dn):=(HB0.out.2.1.alloc (.cells #[.int .i64 0,.int .i64 0,.slice none 0 0,.slice none 0 0,.slice none 0 0,.slice none 0 0,.slice none 0 0,.slice none 0 0] 64)).drew.cell 5
  go_region_held3 (fun w'=>w'.cell? ⟨w.heap.size,0,none⟩=some (.slice sa1 t.st.length sc1)∧w'.cell? ⟨w.heap.size,1,none⟩=some (.slice pa1 t.pa.length pc1)∧w'.cell? ⟨w.heap.size,2,none⟩=some (.slice la1 t.li.length lc1)∧w'.cell? ⟨w.heap.size,3,none⟩=some (.slice xa1 t.cr.length xc1)∧w'.cell? ⟨w.heap.size,4,none⟩=some (.int .i64 tt)∧w'.cell? ⟨w.heap.size,5,none⟩=some (.bool dn)) (go_keep) (first
   | (go_at_call 69;refine (cloneStep _ t.st _ n1 (HL.out.1.mono lr (by first | exact HX0.out | exact HX0a.out) lr)).mono ?_;rintro e w3 ⟨r1,rfl,ho1,hb1⟩;obtain ⟨a1,c1,rfl⟩:=ho1.val;have HX1:Hid (Below w0.heap.size w0 w3):=(by first | exact HX0.out.nx hb1 | exact (HX0a.out).nx hb1);have o1x1:Hid (Own w0.heap.size 100 2 w3 (.slice a1 t.st.length c1) t.st):=ho1.keep (by first | exact HX0.out.size | exact (HX0a.out).size) (fun _ _=>rfl);have m0a:w3.cell? ⟨w.heap.size,0,none⟩=some (.slice sa1 t.st.length sc1):=(HB0.out.2.1.mono HX1.out lr).cell 0;have m1a:w3.cell? ⟨w.heap.size,1,none⟩=some (.slice pa1 t.pa.length pc1):=(HB0.out.2.1.mono HX1.out lr).cell 1;have m2a:w3.cell? ⟨w.heap.size,2,none⟩=some (.slice la1 t.li.length lc1):=(HB0.out.2.1.mono HX1.out lr).cell 2;have m3a:w3.cell? ⟨w.heap.size,3,none⟩=some (.slice xa1 t.cr.length xc1):=(HB0.out.2.1.mono HX1.out lr).cell 3;have m4a:w3.cell? ⟨w.heap.size,4,none⟩=some (.int .i64 tt):=(HB0.out.2.1.mono HX1.out lr).cell 4;have m5a:w3.cell? ⟨w.heap.size,5,none⟩=some (.bool dn):=(HB0.out.2.1.mono HX1.out lr).cell 5;(try (have hV0x1:Hid (Box w3 w0.heap.size 64 #[.int .i64 0,.int .i64 0,.slice none 0 0,.slice none 0 0,.slice none 0 0,.slice none 0 0,.slice none 0 0,.slice none 0 0]):=(Box.new w0 64 #[.int .i64 0,.int .i64 0,.slice none 0 0,.slice none 0 0,.slice none 0 0,.slice none 0 0,.slice none 0 0,.slice none 0 0]).drew.mono hb1 lr)))
   | (go_at_call 70;refine (cloneLie _ t.li _ (by omega) (HL.out.2.2.1.mono lr (by first | exact HX1.out | exact HX1.out.al _) lr)).mono ?_;rintro e w4 ⟨r2,rfl,ho2,hb2⟩;obtain ⟨a2,c2,rfl⟩:=ho2.val;have HX2:Hid (Below w0.heap.size w0 w4):=(by first | exact HX1.out.nx hb2 | exact (HX1.out.al (.cells #[.int .i64 0,.int .i64 0,.slice none 0 0,.slice none 0 0,.slice none 0 0,.slice none 0 0,.slice none 0 0,.slice none 0 0] 64)).nx hb2);have o2x2:Hid (Own w0.heap.size 136 2 w4 (.slice a2 t.li.length c2) t.li):=ho2.keep (by first | exact HX1.out.size | exact (HX1.out.al (.cells #[.int .i64 0,.int .i64 0,.slice none 0 0,.slice none 0 0,.slice none 0 0,.slice none 0 0,.slice none 0 0,.slice none 0 0] 64)).size) (fun _ _=>rfl);have o1x2:Hid (Own w0.heap.size 100 2 w4 (.slice a1 t.st.length c1) t.st):=(by first | exact o1x1.out.mono lr hb2 lr | exact (o1x1.out.alloc (.cells #[.int .i64 0,.int .i64 0,.slice none 0 0,.slice none 0 0,.slice none 0 0,.slice none 0 0,.slice none 0 0,.slice none 0 0] 64)).mono lr hb2 lr);have m0b:w4.cell? ⟨w.heap.size,0,none⟩=some (.slice sa1 t.st.length sc1):=(HB0.out.2.1.mono HX2.out lr).cell 0;have m1b:w4.cell? ⟨w.heap.size,1,none⟩=some (.slice pa1 t.pa.length pc1):=(HB0.out.2.1.mono HX2.out lr).cell 1;have m2b:w4.cell? ⟨w.heap.size,2,none⟩=some (.slice la1 t.li.length lc1):=(HB0.out.2.1.mono HX2.out lr).cell 2;have m3b:w4.cell? ⟨w.heap.size,3,none⟩=some (.slice xa1 t.cr.length xc1):=(HB0.out.2.1.mono HX2.out lr).cell 3;have m4b:w4.cell? ⟨w.heap.size,4,none⟩=some (.int .i64 tt):=(HB0.out.2.1.mono HX2.out lr).cell 4;have m5b:w4.cell? ⟨w.heap.size,5,none⟩=some (.bool dn):=(HB0.out.2.1.mono HX2.out lr).cell 5;(try (have hV1x2:Hid (Box w4 w3.heap.size 64 #[.int .i64 0,.int .i64 0,.slice none 0 0,.slice none 0 0,.slice none 0 0,.slice none 0 0,.slice none 0 0,.slice none 0 0]):=(Box.new w3 64 #[.int .i64 0,.int .i64 0,.slice none 0 0,.slice none 0 0,.slice none 0 0,.slice none 0 0,.slice none 0 0,.slice none 0 0]).mono hb2 lr));(try (have hV0x2:Hid (Box w4 w0.heap.size 64 #[.int .i64 0,.int .i64 0,.slice none 0 0,.slice none 0 0,.slice none 0 0,.slice none 0 0,.slice none 0 0,.slice none 0 0]):=hV0x1.out.mono hb2 lr)))
   | (go_at_call 71;refine (cloneInt _ t.cr _ n3 (HL.out.2.2.2.mono lr (by first | exact HX2.out | exact HX2.out.al _) lr)).mono ?_;rintro e w5 ⟨r3,rfl,ho3,hb3⟩;obtain ⟨a3,c3,rfl⟩:=ho3.val;have HX3:Hid (Below w0.heap.size w0 w5):=(by first | exact HX2.out.nx hb3 | exact (HX2.out.al (.cells #[.int .i64 0,.int .i64 0,.slice none 0 0,.slice none 0 0,.slice none 0 0,.slice none 0 0,.slice none 0 0,.slice none 0 0] 64)).nx hb3);have o3x3:Hid (Own w0.heap.size 3 1 w5 (.slice a3 t.cr.length c3) t.cr):=ho3.keep (by first | exact HX2.out.size | exact (HX2.out.al (.cells #[.int .i64 0,.int .i64 0,.slice none 0 0,.slice none 0 0,.slice none 0 0,.slice none 0 0,.slice none 0 0,.slice none 0 0] 64)).size) (fun _ _=>rfl);have o1x3:Hid (Own w0.heap.size 100 2 w5 (.slice a1 t.st.length c1) t.st):=(by first | exact o1x2.out.mono lr hb3 lr | exact (o1x2.out.alloc (.cells #[.int .i64 0,.int .i64 0,.slice none 0 0,.slice none 0 0,.slice none 0 0,.slice none 0 0,.slice none 0 0,.slice none 0 0] 64)).mono lr hb3 lr);have o2x3:Hid (Own w0.heap.size 136 2 w5 (.slice a2 t.li.length c2) t.li):=(by first | exact o2x2.out.mono lr hb3 lr | exact (o2x2.out.alloc (.cells #[.int .i64 0,.int .i64 0,.slice none 0 0,.slice none 0 0,.slice none 0 0,.slice none 0 0,.slice none 0 0,.slice none 0 0] 64)).mono lr hb3 lr);have m0c:w5.cell? ⟨w.heap.size,0,none⟩=some (.slice sa1 t.st.length sc1):=(HB0.out.2.1.mono HX3.out lr).cell 0;have m1c:w5.cell? ⟨w.heap.size,1,none⟩=some (.slice pa1 t.pa.length pc1):=(HB0.out.2.1.mono HX3.out lr).cell 1;have m2c:w5.cell? ⟨w.heap.size,2,none⟩=some (.slice la1 t.li.length lc1):=(HB0.out.2.1.mono HX3.out lr).cell 2;have m3c:w5.cell? ⟨w.heap.size,3,none⟩=some (.slice xa1 t.cr.length xc1):=(HB0.out.2.1.mono HX3.out lr).cell 3;have m4c:w5.cell? ⟨w.heap.size,4,none⟩=some (.int .i64 tt):=(HB0.out.2.1.mono HX3.out lr).cell 4;have m5c:w5.cell? ⟨w.heap.size,5,none⟩=some (.bool dn):=(HB0.out.2.1.mono HX3.out lr).cell 5;(try (have hV2x3:Hid (Box w5 w4.heap.size 64 #[.int .i64 0,.int .i64 0,.slice none 0 0,.slice none 0 0,.slice none 0 0,.slice none 0 0,.slice none 0 0,.slice none 0 0]):=(Box.new w4 64 #[.int .i64 0,.int .i64 0,.slice none 0 0,.slice none 0 0,.slice none 0 0,.slice none 0 0,.slice none 0 0,.slice none 0 0]).mono hb3 lr));(try (have hV0x3:Hid (Box w5 w0.heap.size 64 #[.int .i64 0,.int .i64 0,.slice none 0 0,.slice none 0 0,.slice none 0 0,.slice none 0 0,.slice none 0 0,.slice none 0 0]):=hV0x2.out.mono hb3 lr));(try (have hV1x3:Hid (Box w5 w3.heap.size 64 #[.int .i64 0,.int .i64 0,.slice none 0 0,.slice none 0 0,.slice none 0 0,.slice none 0 0,.slice none 0 0,.slice none 0 0]):=hV1x2.out.mono hb3 lr)))
   | (go_at_call 72;refine (clonePart _ t.pa _ n4 (HL.out.2.1.mono lr (by first | exact HX3.out | exact HX3.out.al _) lr)).mono ?_;rintro e w6 ⟨r4,rfl,ho4,hb4⟩;obtain ⟨a4,c4,rfl⟩:=ho4.val;have HX4:Hid (Below w0.heap.size w0 w6):=(by first | exact HX3.out.nx hb4 | exact (HX3.out.al (.cells #[.int .i64 0,.int .i64 0,.slice none 0 0,.slice none 0 0,.slice none 0 0,.slice none 0 0,.slice none 0 0,.slice none 0 0] 64)).nx hb4);have o4x4:Hid (Own w0.heap.size 104 3 w6 (.slice a4 t.pa.length c4) t.pa):=ho4.keep (by first | exact HX3.out.size | exact (HX3.out.al (.cells #[.int .i64 0,.int .i64 0,.slice none 0 0,.slice none 0 0,.slice none 0 0,.slice none 0 0,.slice none 0 0,.slice none 0 0] 64)).size) (fun _ _=>rfl);have o1x4:Hid (Own w0.heap.size 100 2 w6 (.slice a1 t.st.length c1) t.st):=(by first | exact o1x3.out.mono lr hb4 lr | exact (o1x3.out.alloc (.cells #[.int .i64 0,.int .i64 0,.slice none 0 0,.slice none 0 0,.slice none 0 0,.slice none 0 0,.slice none 0 0,.slice none 0 0] 64)).mono lr hb4 lr);have o2x4:Hid (Own w0.heap.size 136 2 w6 (.slice a2 t.li.length c2) t.li):=(by first | exact o2x3.out.mono lr hb4 lr | exact (o2x3.out.alloc (.cells #[.int .i64 0,.int .i64 0,.slice none 0 0,.slice none 0 0,.slice none 0 0,.slice none 0 0,.slice none 0 0,.slice none 0 0] 64)).mono lr hb4 lr);have o3x4:Hid (Own w0.heap.size 3 1 w6 (.slice a3 t.cr.length c3) t.cr):=(by first | exact o3x3.out.mono lr hb4 lr | exact (o3x3.out.alloc (.cells #[.int .i64 0,.int .i64 0,.slice none 0 0,.slice none 0 0,.slice none 0 0,.slice none 0 0,.slice none 0 0,.slice none 0 0] 64)).mono lr hb4 lr);have m0d:w6.cell? ⟨w.heap.size,0,none⟩=some (.slice sa1 t.st.length sc1):=(HB0.out.2.1.mono HX4.out lr).cell 0;have m1d:w6.cell? ⟨w.heap.size,1,none⟩=some (.slice pa1 t.pa.length pc1):=(HB0.out.2.1.mono HX4.out lr).cell 1;have m2d:w6.cell? ⟨w.heap.size,2,none⟩=some (.slice la1 t.li.length lc1):=(HB0.out.2.1.mono HX4.out lr).cell 2;have m3d:w6.cell? ⟨w.heap.size,3,none⟩=some (.slice xa1 t.cr.length xc1):=(HB0.out.2.1.mono HX4.out lr).cell 3;have m4d:w6.cell? ⟨w.heap.size,4,none⟩=some (.int .i64 tt):=(HB0.out.2.1.mono HX4.out lr).cell 4;have m5d:w6.cell? ⟨w.heap.size,5,none⟩=some (.bool dn):=(HB0.out.2.1.mono HX4.out lr).cell 5;(try (have hV3x4:Hid (Box w6 w5.heap.size 64 #[.int .i64 0,.int .i64 0,.slice none 0 0,.slice none 0 0,.slice none 0 0,.slice none 0 0,.slice none 0 0,.slice none 0 0]):=(Box.new w5 64 #[.int .i64 0,.int .i64 0,.slice none 0 0,.slice none 0 0,.slice none 0 0,.slice none 0 0,.slice none 0 0,.slice none 0 0]).mono hb4 lr));(try (have hV0x4:Hid (Box w6 w0.heap.size 64 #[.int .i64 0,.int .i64 0,.slice none 0 0,.slice none 0 0,.slice none 0 0,.slice none 0 0,.slice none 0 0,.slice none 0 0]):=hV0x3.out.mono hb4 lr));(try (have hV1x4:Hid (Box w6 w3.heap.size 64 #[.int .i64 0,.int .i64 0,.slice none 0 0,.slice none 0 0,.slice none 0 0,.slice none 0 0,.slice none 0 0,.slice none 0 0]):=hV1x3.out.mono hb4 lr));(try (have hV2x4:Hid (Box w6 w4.heap.size 64 #[.int .i64 0,.int .i64 0,.slice none 0 0,.slice none 0 0,.slice none 0 0,.slice none 0 0,.slice none 0 0,.slice none 0 0]):=hV2x3.out.mono hb4 lr));(try (have v0c0:w6.cell? ⟨w0.heap.size,0,none⟩=some (.int .i64 0):=hV0x4.out.cell 0;have v0c1:w6.cell? ⟨w0.heap.size,1,none⟩=some (.int .i64 0):=hV0x4.out.cell 1;have v0c2:w6.cell? ⟨w0.heap.size,2,none⟩=some (.slice none 0 0):=hV0x4.out.cell 2;have v0c3:w6.cell? ⟨w0.heap.size,3,none⟩=some (.slice none 0 0):=hV0x4.out.cell 3;have v0c4:w6.cell? ⟨w0.heap.size,4,none⟩=some (.slice none 0 0):=hV0x4.out.cell 4;have v0c5:w6.cell? ⟨w0.heap.size,5,none⟩=some (.slice none 0 0):=hV0x4.out.cell 5;have v0c6:w6.cell? ⟨w0.heap.size,6,none⟩=some (.slice none 0 0):=hV0x4.out.cell 6;have v0c7:w6.cell? ⟨w0.heap.size,7,none⟩=some (.slice none 0 0):=hV0x4.out.cell 7;have v0f0:=hV0x4.out.free 0;have v0f1:=hV0x4.out.free 1;have v0f2:=hV0x4.out.free 2;have v0f3:=hV0x4.out.free 3;have v0f4:=hV0x4.out.free 4;have v0f5:=hV0x4.out.free 5;have v0f6:=hV0x4.out.free 6;have v0f7:=hV0x4.out.free 7;have v0n:w0.heap.size≠w.heap.size:=(by have h1:=lt0.out;have h2:=HX0.out.size;(try simp only [World.drew] at h2);omega)));(try (have v1c0:w6.cell? ⟨w3.heap.size,0,none⟩=some (.int .i64 0):=hV1x4.out.cell 0;have v1c1:w6.cell? ⟨w3.heap.size,1,none⟩=some (.int .i64 0):=hV1x4.out.cell 1;have v1c2:w6.cell? ⟨w3.heap.size,2,none⟩=some (.slice none 0 0):=hV1x4.out.cell 2;have v1c3:w6.cell? ⟨w3.heap.size,3,none⟩=some (.slice none 0 0):=hV1x4.out.cell 3;have v1c4:w6.cell? ⟨w3.heap.size,4,none⟩=some (.slice none 0 0):=hV1x4.out.cell 4;have v1c5:w6.cell? ⟨w3.heap.size,5,none⟩=some (.slice none 0 0):=hV1x4.out.cell 5;have v1c6:w6.cell? ⟨w3.heap.size,6,none⟩=some (.slice none 0 0):=hV1x4.out.cell 6;have v1c7:w6.cell? ⟨w3.heap.size,7,none⟩=some (.slice none 0 0):=hV1x4.out.cell 7;have v1f0:=hV1x4.out.free 0;have v1f1:=hV1x4.out.free 1;have v1f2:=hV1x4.out.free 2;have v1f3:=hV1x4.out.free 3;have v1f4:=hV1x4.out.free 4;have v1f5:=hV1x4.out.free 5;have v1f6:=hV1x4.out.free 6;have v1f7:=hV1x4.out.free 7;have v1n:w3.heap.size≠w.heap.size:=(by have h1:=lt0.out;have h2:=HX1.out.size;(try simp only [World.drew] at h2);omega)));(try (have v2c0:w6.cell? ⟨w4.heap.size,0,none⟩=some (.int .i64 0):=hV2x4.out.cell 0;have v2c1:w6.cell? ⟨w4.heap.size,1,none⟩=some (.int .i64 0):=hV2x4.out.cell 1;have v2c2:w6.cell? ⟨w4.heap.size,2,none⟩=some (.slice none 0 0):=hV2x4.out.cell 2;have v2c3:w6.cell? ⟨w4.heap.size,3,none⟩=some (.slice none 0 0):=hV2x4.out.cell 3;have v2c4:w6.cell? ⟨w4.heap.size,4,none⟩=some (.slice none 0 0):=hV2x4.out.cell 4;have v2c5:w6.cell? ⟨w4.heap.size,5,none⟩=some (.slice none 0 0):=hV2x4.out.cell 5;have v2c6:w6.cell? ⟨w4.heap.size,6,none⟩=some (.slice none 0 0):=hV2x4.out.cell 6;have v2c7:w6.cell? ⟨w4.heap.size,7,none⟩=some (.slice none 0 0):=hV2x4.out.cell 7;have v2f0:=hV2x4.out.free 0;have v2f1:=hV2x4.out.free 1;have v2f2:=hV2x4.out.free 2;have v2f3:=hV2x4.out.free 3;have v2f4:=hV2x4.out.free 4;have v2f5:=hV2x4.out.free 5;have v2f6:=hV2x4.out.free 6;have v2f7:=hV2x4.out.free 7;have v2n:w4.heap.size≠w.heap.size:=(by have h1:=lt0.out;have h2:=HX2.out.size;(try simp only [World.drew] at h2);omega)));(try (have v3c0:w6.cell? ⟨w5.heap.size,0,none⟩=some (.int .i64 0):=hV3x4.out.cell 0;have v3c1:w6.cell? ⟨w5.heap.size,1,none⟩=some (.int .i64 0):=hV3x4.out.cell 1;have v3c2:w6.cell? ⟨w5.heap.size,2,none⟩=some (.slice none 0 0):=hV3x4.out.cell 2;have v3c3:w6.cell? ⟨w5.heap.size,3,none⟩=some (.slice none 0 0):=hV3x4.out.cell 3;have v3c4:w6.cell? ⟨w5.heap.size,4,none⟩=some (.slice none 0 0):=hV3x4.out.cell 4;have v3c5:w6.cell? ⟨w5.heap.size,5,none⟩=some (.slice none 0 0):=hV3x4.out.cell 5;have v3c6:w6.cell? ⟨w5.heap.size,6,none⟩=some (.slice none 0 0):=hV3x4.out.cell 6;have v3c7:w6.cell? ⟨w5.heap.size,7,none⟩=some (.slice none 0 0):=hV3x4.out.cell 7;have v3f0:=hV3x4.out.free 0;have v3f1:=hV3x4.out.free 1;have v3f2:=hV3x4.out.free 2;have v3f3:=hV3x4.out.free 3;have v3f4:=hV3x4.out.free 4;have v3f5:=hV3x4.out.free 5;have v3f6:=hV3x4.out.free 6;have v3f7:=hV3x4.out.free 7;have v3n:w5.heap.size≠w.heap.size:=(by have h1:=lt0.out;have h2:=HX3.out.size;(try simp only [World.drew] at h2);omega)));have nw:w6.heap.size≠w.heap.size:=(by have h1:=lt0.out;have h2:=HX4.out.size;omega)))
  all_goals
   go_wp2_with fail
   go_meet
   case rel=>first
    | (have hz:=hV0x4;exact ⟨w0.heap.size,a1,a2,a3,a4,c1,c2,c3,c4,rfl,RtF.laid HX4.out hV0x4.out lr o1x4.out o2x4.out o3x4.out o4x4.out⟩)
    | (have hz:=hV1x4;exact ⟨w3.heap.size,a1,a2,a3,a4,c1,c2,c3,c4,rfl,RtF.laid HX4.out hV1x4.out HX1.out.size o1x4.out o2x4.out o3x4.out o4x4.out⟩)
    | (have hz:=hV2x4;exact ⟨w4.heap.size,a1,a2,a3,a4,c1,c2,c3,c4,rfl,RtF.laid HX4.out hV2x4.out HX2.out.size o1x4.out o2x4.out o3x4.out o4x4.out⟩)
    | (have hz:=hV3x4;exact ⟨w5.heap.size,a1,a2,a3,a4,c1,c2,c3,c4,rfl,RtF.laid HX4.out hV3x4.out HX3.out.size o1x4.out o2x4.out o3x4.out o4x4.out⟩)
    | exact ⟨w6.heap.size,a1,a2,a3,a4,c1,c2,c3,c4,rfl,RtF.new HX4.out o1x4.out o2x4.out o3x4.out o4x4.out⟩
 case rest=>
  obtain ⟨q,a1,a2,a3,a4,c1,c2,c3,c4,rfl,HF⟩:=hcut
  have r1:wc.cell? ⟨q,1,none⟩=some (.int .i64 tt):=HF.out.box.cell 1
  go_upto_if 31 with fail
  go_cut [] from 13 (fun wx=>∃ oa oc,Hid (RtF w0 wx q fr tt t a1 a2 a3 a4 c1 c2 c3 c4 (.slice oa (ovOf v tt).length oc) (.slice none 0 0) (ovOf v tt) ([])))
  case first=>
   rcases HTO.out with rfl | ⟨h0,h1⟩
   ·have HG:Hid (RtF w0 wc q fr (-1) t a1 a2 a3 a4 c1 c2 c3 c4 (.slice none (ovOf v (-1)).length 0) (.slice none 0 0) (ovOf v (-1)) ([])):=HF.out
    go_wp2_with fail
    go_meet
    case rel=>exact ⟨none,0,HG⟩
   ·obtain ⟨b,rfl⟩:∃ b:Nat,tt=(b:Int):=⟨tt.toNat,by omega⟩
    have hbk:b<v.k:=by omega
    obtain ⟨g1,g2,g3,g4,g5⟩:=OK.out.sg b hbk
    obtain ⟨p0,hp0⟩:∃ p0:Nat,Hid ((v.S b).ln=(p0:Int)):=⟨(v.S b).ln.toNat,by show (v.S b).ln=_;omega⟩
    have hpn:p0<v.n:=by have:=hp0.out;omega
    rw [hp0.out,Int.toNat_natCast] at g5
    have GS:Hid (((v.S b).br=1∨(v.S b).br=-1)∧1≤(v.S b).sp∧(v.S b).sp≤(v.P p0).ln-1):=⟨g3,g4,g5⟩
    have HOV:Hid (ovOf v (b:Int)=v.bey v.ov.toNat v.ov p0 (v.S b).br (farI (v.P p0).ln (v.S b).sp (v.S b).br)):=by show ovOf v (b:Int)=_;unfold ovOf;rw [if_pos (by omega),Int.toNat_natCast,hp0.out,Int.toNat_natCast]
    clear g1 g2 g3 g4 g5
    have B1:Hid (Below w0.heap.size w0 wc.drew):=HF.out.bel.drew
    obtain ⟨bs,offs,rfl,_,hbs,hcs⟩:=(HT.out.mono B1.out lr).net.s (by omega)
    obtain ⟨s0,s1,s2,s3⟩:=hcs b hbk
    rw [hp0.out] at s1
    have t2:wc.drew.cell? ⟨bt,2,none⟩=some (.slice (some ⟨bs,offs,none⟩) v.k sc):=(HT.out.mono B1.out lr).s
    have r1d:wc.drew.cell? ⟨q,1,none⟩=some (.int .i64 (b:Int)):=r1
    have hb0:(0:Int)≤(b:Int):=by omega
    have hb1:(b:Int)<(v.k:Int):=by omega
    clear hcs
    have HQt:Hid (bt<w0.heap.size):=HT.out.lt
    have HQs:Hid (bs<w0.heap.size):=by obtain ⟨_,_,hh,_,hlt,_⟩:=HT.out.net.s (by omega);cases hh;exact hlt
    go_wp2_with fail
    go_region_held3 (fun w'=>w'.cell? ⟨bt,2,none⟩=some (.slice (some ⟨bs,offs,none⟩) v.k sc)∧w'.cell? ⟨q,1,none⟩=some (.int .i64 (b:Int))∧w'.cell? ⟨bs,offs+b*4,none⟩=some (.string (v.S b).nm)∧w'.cell? ⟨bs,offs+b*4+1,none⟩=some (.int .i64 (p0:Int))∧w'.cell? ⟨bs,offs+b*4+2,none⟩=some (.int .i64 (v.S b).sp)∧w'.cell? ⟨bs,offs+b*4+3,none⟩=some (.int .i64 (v.S b).br)) (go_keep) (first
     | (go_at_call 73;refine (behind73 OK.out (v.S b).nm p0 (v.S b).sp (v.S b).br _ (HT.out.mono B1.out lr) hpn GS.out.1 GS.out.2).mono ?_;rintro e w3 ⟨r5,rfl,ho5,hb5⟩;obtain ⟨oa,oc,rfl⟩:=ho5.val;have HF3:Hid (RtF w0 w3 q fr (b:Int) t a1 a2 a3 a4 c1 c2 c3 c4 (.slice none 0 0) (.slice none 0 0) ([]) ([])):=(HF.out.mono (Below.refl _ _).drew).mono hb5;have HF4:Hid (RtF w0 (w3.setCell ⟨q,6,none⟩ (.slice oa (ovOf v (b:Int)).length oc)) q fr (b:Int) t a1 a2 a3 a4 c1 c2 c3 c4 (.slice oa (ovOf v (b:Int)).length oc) (.slice none 0 0) (ovOf v (b:Int)) ([])):=HF3.out.setO (by rw [HOV.out];exact ho5.keep B1.out.size (fun _ _=>rfl)) (fun k hk e=>by have h1:=(HF.out.pt.lt hk).2;have h2:=(ho5.lt (g:=k) (by rw [HOV.out] at e;exact e)).1;have h3:wc.drew.heap.size=wc.heap.size:=rfl;omega);rw [HOV.out] at HF4;have B3:Hid (Below w0.heap.size w0 w3):=HF3.out.bel;have m0:w3.cell? ⟨bt,2,none⟩=some (.slice (some ⟨bs,offs,none⟩) v.k sc):=(hb5.cell (p:=⟨bt,2,none⟩) (HT.out.mono B1.out lr).lt).trans t2;have m1:w3.cell? ⟨q,1,none⟩=some (.int .i64 (b:Int)):=HF3.out.box.cell 1;have m2:w3.cell? ⟨bs,offs+b*4,none⟩=some (.string (v.S b).nm):=(hb5.cell (p:=⟨bs,offs+b*4,none⟩) hbs).trans s0;have m3:w3.cell? ⟨bs,offs+b*4+1,none⟩=some (.int .i64 (p0:Int)):=(hb5.cell (p:=⟨bs,offs+b*4+1,none⟩) hbs).trans s1;have m4:w3.cell? ⟨bs,offs+b*4+2,none⟩=some (.int .i64 (v.S b).sp):=(hb5.cell (p:=⟨bs,offs+b*4+2,none⟩) hbs).trans s2;have m5:w3.cell? ⟨bs,offs+b*4+3,none⟩=some (.int .i64 (v.S b).br):=(hb5.cell (p:=⟨bs,offs+b*4+3,none⟩) hbs).trans s3;have m6:w3.cell? ⟨q,6,none⟩=some (.slice none 0 0):=HF3.out.box.cell 6;have f6:=HF3.out.box.free 6;have k0:(w3.setCell ⟨q,6,none⟩ (.slice oa (v.bey v.ov.toNat v.ov p0 (v.S b).br (farI (v.P p0).ln (v.S b).sp (v.S b).br)).length oc)).cell? ⟨bt,2,none⟩=some (.slice (some ⟨bs,offs,none⟩) v.k sc):=(World.cell?_setCell_far _ _ _ _ (by show q≠bt;have z1:=HF3.out.ge;have z2:=HQt.out;omega)).trans m0;have k1:(w3.setCell ⟨q,6,none⟩ (.slice oa (v.bey v.ov.toNat v.ov p0 (v.S b).br (farI (v.P p0).ln (v.S b).sp (v.S b).br)).length oc)).cell? ⟨q,1,none⟩=some (.int .i64 (b:Int)):=HF4.out.box.cell 1;have k2:(w3.setCell ⟨q,6,none⟩ (.slice oa (v.bey v.ov.toNat v.ov p0 (v.S b).br (farI (v.P p0).ln (v.S b).sp (v.S b).br)).length oc)).cell? ⟨bs,offs+b*4,none⟩=some (.string (v.S b).nm):=(World.cell?_setCell_far _ _ _ _ (by show q≠bs;have z1:=HF3.out.ge;have z2:=HQs.out;omega)).trans m2;have k3:(w3.setCell ⟨q,6,none⟩ (.slice oa (v.bey v.ov.toNat v.ov p0 (v.S b).br (farI (v.P p0).ln (v.S b).sp (v.S b).br)).length oc)).cell? ⟨bs,offs+b*4+1,none⟩=some (.int .i64 (p0:Int)):=(World.cell?_setCell_far _ _ _ _ (by show q≠bs;have z1:=HF3.out.ge;have z2:=HQs.out;omega)).trans m3;have k4:(w3.setCell ⟨q,6,none⟩ (.slice oa (v.bey v.ov.toNat v.ov p0 (v.S b).br (farI (v.P p0).ln (v.S b).sp (v.S b).br)).length oc)).cell? ⟨bs,offs+b*4+2,none⟩=some (.int .i64 (v.S b).sp):=(World.cell?_setCell_far _ _ _ _ (by show q≠bs;have z1:=HF3.out.ge;have z2:=HQs.out;omega)).trans m4;have k5:(w3.setCell ⟨q,6,none⟩ (.slice oa (v.bey v.ov.toNat v.ov p0 (v.S b).br (farI (v.P p0).ln (v.S b).sp (v.S b).br)).length oc)).cell? ⟨bs,offs+b*4+3,none⟩=some (.int .i64 (v.S b).br):=(World.cell?_setCell_far _ _ _ _ (by show q≠bs;have z1:=HF3.out.ge;have z2:=HQs.out;omega)).trans m5))
    all_goals
     go_wp2_with fail
     go_meet
     case rel=>exact ⟨oa,oc,by rw [HOV.out];exact HF4⟩
  case rest=>
   obtain ⟨oa,oc,HG⟩:=hcut
   clear r1 HF HTO
   have r3:wc.cell? ⟨q,3,none⟩=some (.slice a2 t.li.length c2):=HG.out.box.cell 3
   go_wp2_with fail
   go_loopw [47] (fun i wr=>∃ (k:Nat) (fa:Option Addr) (fc:Nat),k≤t.li.length∧i=.int .i64 k∧(v.fls t.li (t.li.take k)).length≤300*k∧Hid (RtF w0 wr q fr tt t a1 a2 a3 a4 c1 c2 c3 c4 (.slice oa (ovOf v tt).length oc) (.slice fa (v.fls t.li (t.li.take k)).length fc) (ovOf v tt) (v.fls t.li (t.li.take k)))) (fun i _=>t.li.length-(intOf i).toNat)
   case atStart=>exact ⟨0,none,0,Nat.zero_le _,rfl,by simp [Ev.fls],by simpa [Ev.fls] using HG⟩
   case round=>
    clear r3 HG
    obtain ⟨k,fa,fc,hk,rfl,hfl,HR⟩:=hrel
    by_cases hlt:k<t.li.length
    ·obtain ⟨j,x,hjm,hkd,hx,hrow,hr0,hr1⟩:=HLI.out.1.row hlt
     have hne3:(v.J j).ne=3:=by have:=OK.out.kd j hjm;omega
     obtain ⟨al3,cl3,hv3,hLs3⟩:=HR.out.l.ls.val
     simp only [Value.slice.injEq] at hv3
     obtain ⟨rfl,_,rfl⟩:=hv3
     obtain ⟨b3,off3,hal3,_,hb3,hc3⟩:=hLs3 (by omega)
     subst hal3
     have c0:wr.cell? ⟨b3,off3+k*2,none⟩=some (.int .i64 j):=by rw [← hr0];exact hc3 k hlt 0 (by omega)
     have c1:wr.cell? ⟨b3,off3+k*2+1,none⟩=some (.int .i64 x):=by rw [← hr1];exact hc3 k hlt 1 (by omega)
     have r3:wr.cell? ⟨q,3,none⟩=some (.slice (some ⟨b3,off3,none⟩) t.li.length c2):=HR.out.box.cell 3
     have zq:=HR.out.box.lt
     have hki:(k:Int)<(t.li.length:Int):=by omega
     clear hc3 hLs3
     obtain ⟨i5,e51,e52,e53,e54⟩:=info_parts infoFlank
     rcases hx with rfl | rfl
     ·have hst:=lookStore (wr.alloc (.cells #[.int .i64 j,.int .i64 1] 136)) (.pointer (some ⟨bt,0,none⟩)) (.slice (some ⟨b3,off3,none⟩) t.li.length c2) (.int .i64 j) (q:=wr.heap.size+1) (by simp) rfl rfl rfl
      have hwp1:IntKind.i64.wrap 1=1:=rfl
      have hwp2:IntKind.i64.wrap 2=2:=rfl
      go_wp2_with fail
      clear hst c0 c1 r3
      have hX:Box (wr.alloc (.cells #[.int .i64 j,.int .i64 1] 136)) wr.heap.size 136 #[.int .i64 j,.int .i64 1]:=Box.new wr 136 _
      have HRl:Hid (RtF w0 (wr.alloc (.cells #[.int .i64 j,.int .i64 1] 136)) q fr tt t a1 (some ⟨b3,off3,none⟩) a3 a4 c1 c2 c3 c4 (.slice oa (ovOf v tt).length oc) (.slice fa (v.fls t.li (t.li.take k)).length fc) (ovOf v tt) (v.fls t.li (t.li.take k))):=HR.out.mono (bel1 wr _)
      have FK0:FkS (wr.alloc (.cells #[.int .i64 j,.int .i64 1] 136)) bt (wr.heap.size+1) (.slice (some ⟨b3,off3,none⟩) t.li.length c2) j ((wr.alloc (.cells #[.int .i64 j,.int .i64 1] 136)).alloc (.cells (lookVs (.pointer (some ⟨bt,0,none⟩)) (.slice (some ⟨b3,off3,none⟩) t.li.length c2) (.int .i64 j)) 143)) (lookVs (.pointer (some ⟨bt,0,none⟩)) (.slice (some ⟨b3,off3,none⟩) t.li.length c2) (.int .i64 j)) (.slice none 0 0) [] []:=by have:=@FkS.start (wr.alloc (.cells #[.int .i64 j,.int .i64 1] 136)) bt (.slice (some ⟨b3,off3,none⟩) t.li.length c2) j;rwa [World.size_alloc] at this
      have BW:=bel1 (wr.alloc (.cells #[.int .i64 j,.int .i64 1] 136)) (.cells (lookVs (.pointer (some ⟨bt,0,none⟩)) (.slice (some ⟨b3,off3,none⟩) t.li.length c2) (.int .i64 j)) 143)
      have zl:wr.heap.size<(wr.alloc (.cells #[.int .i64 j,.int .i64 1] 136)).heap.size:=by simp
      generalize (lookVs (.pointer (some ⟨bt,0,none⟩)) (.slice (some ⟨b3,off3,none⟩) t.li.length c2) (.int .i64 j))=vs0 at FK0 BW ⊢
      generalize (wr.alloc (.cells #[.int .i64 j,.int .i64 1] 136))=wl at hX HRl FK0 BW zl ⊢
      generalize hwW:wl.alloc (.cells vs0 143)=w7 at FK0 BW ⊢
      clear hwW
      have HTl:Hid (TkAt wl bt v pa pc ja jc sa sc):=HT.out.mono HRl.out.bel lr
      have heo:=OK.out.enOk hjm (q:=2) (by omega)
      obtain ⟨b2,off2,hja2,_,hb2,hc2⟩:=HTl.out.net.j (by omega)
      obtain ⟨ea,ec,d0,d1,d2,hEs⟩:=hc2 j hjm
      subst hja2
      rw [hne3] at d2 hEs
      obtain ⟨b4,off4,rfl,_,hb4,hc4⟩:=hEs (by omega)
      obtain ⟨y0,y1⟩:=hc4 2 (by omega)
      clear d0 d1 hc2 hc4 hEs
      have zt:=HTl.out.lt
      have k0:w7.drew.cell? ⟨bt,1,none⟩=some (.slice (some ⟨b2,off2,none⟩) v.m jc):=(BW.cell (p:=⟨bt,1,none⟩) (by show bt<wl.heap.size;omega)).trans (HTl.out.j)
      have k1:w7.drew.cell? ⟨wr.heap.size,0,none⟩=some (.int .i64 j):=(BW.cell (p:=⟨wr.heap.size,0,none⟩) (by show wr.heap.size<wl.heap.size;omega)).trans (hX.cell 0)
      have k2:w7.drew.cell? ⟨wr.heap.size,1,none⟩=some (.int .i64 1):=(BW.cell (p:=⟨wr.heap.size,1,none⟩) (by show wr.heap.size<wl.heap.size;omega)).trans (hX.cell 1)
      have k3:w7.drew.cell? ⟨b2,off2+j*3+2,none⟩=some (.slice (some ⟨b4,off4,none⟩) 3 ec):=(BW.cell (p:=⟨b2,off2+j*3+2,none⟩) (by show b2<wl.heap.size;omega)).trans (d2)
      have k4:w7.drew.cell? ⟨b4,off4+4,none⟩=some (.int .i64 ((v.J j).E 2).pc):=(BW.cell (p:=⟨b4,off4+4,none⟩) (by show b4<wl.heap.size;omega)).trans (y0)
      have k5:w7.drew.cell? ⟨b4,off4+4+1,none⟩=some (.int .i64 ((v.J j).E 2).sd):=(BW.cell (p:=⟨b4,off4+4+1,none⟩) (by show b4<wl.heap.size;omega)).trans (y1)
      have hji:(j:Int)<(v.m:Int):=by omega
      have hj0:(0:Int)≤(j:Int):=by omega
      have HLs:Hid (LsAt 2 0 wl (.slice (some ⟨b3,off3,none⟩) t.li.length c2) t.li):=HRl.out.l.ls.mono (Nat.zero_le _) (Below.refl wl.heap.size wl) lr
      have HC7:Hid (Calls Tryz.prog 74 #[.pointer (some ⟨wr.heap.size+1,0,none⟩),.agg #[.int .i64 ((v.J j).E 2).pc,.int .i64 ((v.J j).E 2).sd]] w7.drew (FkTo wl bt (wr.heap.size+1) (.slice (some ⟨b3,off3,none⟩) t.li.length c2) j w7.drew (.slice none 0 0) ([] ++ (v.fl t.li j (2*v.n+1) [] ((v.J j).E 2)).2) (v.fl t.li j (2*v.n+1) [] ((v.J j).E 2)).1)):=from74 OK.out HTl.out t.li HLs.out (by omega) HLI.out.2 (2*v.n+1) w7.drew vs0 _ [] [] ((v.J j).E 2) heo (FK0.below (Below.refl _ _).drew) (Once.nil _ _ _) (by simp) (by simp)
      clear FK0 BW
      go_region_held3 (fun w'=>w'.cell? ⟨bt,1,none⟩=some (.slice (some ⟨b2,off2,none⟩) v.m jc)∧w'.cell? ⟨wr.heap.size,0,none⟩=some (.int .i64 j)∧w'.cell? ⟨wr.heap.size,1,none⟩=some (.int .i64 1)∧w'.cell? ⟨b2,off2+j*3+2,none⟩=some (.slice (some ⟨b4,off4,none⟩) 3 ec)∧w'.cell? ⟨b4,off4+4,none⟩=some (.int .i64 ((v.J j).E 2).pc)∧w'.cell? ⟨b4,off4+4+1,none⟩=some (.int .i64 ((v.J j).E 2).sd)) (go_keep) (first
       | (go_at_call 74;refine HC7.out.mono ?_;rintro e w8 ⟨rfl,vs8,fv8,FK8,hfr8,hmv8⟩;have m0:w8.cell? ⟨bt,1,none⟩=some (.slice (some ⟨b2,off2,none⟩) v.m jc):=(FK8.bel.cell (p:=⟨bt,1,none⟩) (by show bt<wl.heap.size;omega)).trans (HTl.out.j);have m1:w8.cell? ⟨wr.heap.size,0,none⟩=some (.int .i64 j):=(FK8.bel.cell (p:=⟨wr.heap.size,0,none⟩) (by show wr.heap.size<wl.heap.size;omega)).trans (hX.cell 0);have m2:w8.cell? ⟨wr.heap.size,1,none⟩=some (.int .i64 1):=(FK8.bel.cell (p:=⟨wr.heap.size,1,none⟩) (by show wr.heap.size<wl.heap.size;omega)).trans (hX.cell 1);have m3:w8.cell? ⟨b2,off2+j*3+2,none⟩=some (.slice (some ⟨b4,off4,none⟩) 3 ec):=(FK8.bel.cell (p:=⟨b2,off2+j*3+2,none⟩) (by show b2<wl.heap.size;omega)).trans (d2);have m4:w8.cell? ⟨b4,off4+4,none⟩=some (.int .i64 ((v.J j).E 2).pc):=(FK8.bel.cell (p:=⟨b4,off4+4,none⟩) (by show b4<wl.heap.size;omega)).trans (y0);have m5:w8.cell? ⟨b4,off4+4+1,none⟩=some (.int .i64 ((v.J j).E 2).sd):=(FK8.bel.cell (p:=⟨b4,off4+4+1,none⟩) (by show b4<wl.heap.size;omega)).trans (y1)))
      all_goals
       have HR8:Hid (RtF w0 w8 q fr tt t a1 (some ⟨b3,off3,none⟩) a3 a4 c1 c2 c3 c4 (.slice oa (ovOf v tt).length oc) (.slice fa (v.fls t.li (t.li.take k)).length fc) (ovOf v tt) (v.fls t.li (t.li.take k))):=HRl.out.mono FK8.bel
       obtain ⟨af8,cf8,hv8⟩:=FK8.own.val
       subst hv8
       rw [List.nil_append] at FK8
       have x7:w8.cell? ⟨q,7,none⟩=some (.slice fa (v.fls t.li (t.li.take k)).length fc):=HR8.out.box.cell 7
       have g7:=HR8.out.box.free 7
       have x203:w8.cell? ⟨wr.heap.size+1,203,none⟩=some (.slice af8 ([] ++ (v.fl t.li j (2*v.n+1) [] ((v.J j).E 2)).2).length cf8):=(FK8.box.cell 203).trans FK8.v203
       rw [List.nil_append] at x203
       have HO8:Hid (LsAt 4 0 w8 (.slice af8 (v.fl t.li j (2*v.n+1) [] ((v.J j).E 2)).2.length cf8) (v.fl t.li j (2*v.n+1) [] ((v.J j).E 2)).2):=FK8.own.ls.mono (Nat.zero_le _) (Below.refl w8.heap.size w8) lr
       have hgl:=(fl_grow OK.out t.li (j:Int) (2*v.n+1) [] ((v.J j).E 2) (Once.nil _ _ _) heo)
       have hg2:=hgl.1.len
       have hg3:=hgl.2.2.1
       have hnn:=OK.out.n1
       simp only [List.length_nil] at hg3
       have HFE:Hid (v.fls t.li (t.li.take k) ++ (v.fl t.li j (2*v.n+1) [] ((v.J j).E 2)).2=v.fls t.li (t.li.take (k+1))):=by
        show _=_
        have e1:t.li.take (k+1)=t.li.take k ++ [[(j:Int),(1:Nat)]]:=by rw [List.take_add_one,hrow];rfl
        rw [e1,fls_snoc]
        rfl
       have hfl2:(v.fls t.li (t.li.take (k+1))).length≤300*(k+1):=by rw [← HFE.out,List.length_append];omega
       have hbse:w0.heap.size≤w8.heap.size:=HR8.out.bel.size
       clear FK8 hfr8 hmv8 hgl HC7
       go_wp2_with (at_builtin;go_must (refine wpList_appsH _ rfl (.tmp 74) (.tmp 76) 62 rfl w0.heap.size 155 i5 _ 4 32 Tryz.underlying62 e51 e52 e53 e54 rfl (by decide) _ (v.fls t.li (t.li.take k)) rfl HR8.out.f _ (v.fl t.li j (2*v.n+1) [] ((v.J j).E 2)).2 rfl HO8.out (by simp only [maxLen];omega) (by omega) hbse ?_))
       refine Halt.mk fun v9 w9 ho9 hg9=>?_
       rw [HFE.out] at ho9
       obtain ⟨fa9,fc9,rfl⟩:=ho9.val
       have HR9:Hid (RtF w0 (w9.setCell ⟨q,7,none⟩ (.slice fa9 (v.fls t.li (t.li.take (k+1))).length fc9)) q fr tt t a1 (some ⟨b3,off3,none⟩) a3 a4 c1 c2 c3 c4 (.slice oa (ovOf v tt).length oc) (.slice fa9 (v.fls t.li (t.li.take (k+1))).length fc9) (ovOf v tt) (v.fls t.li (t.li.take (k+1)))):=HR8.out.app hg9 ho9
       have hb9:=HR8.out.box.grown hg9 (fun e=>HR8.out.f.off HR8.out.box (by decide) e rfl)
       have x79:w9.cell? ⟨q,7,none⟩=some (.slice fa (v.fls t.li (t.li.take k)).length fc):=hb9.cell 7
       have g79:=hb9.free 7
       clear hb9 ho9 hg9
       go_wp2_with fail
       go_roundw
       case rel=>exact ⟨k+1,fa9,fc9,by omega,by go_num,hfl2,HR9⟩
       case measure=>simp [intOf];omega
     ·have hst:=lookStore (wr.alloc (.cells #[.int .i64 j,.int .i64 2] 136)) (.pointer (some ⟨bt,0,none⟩)) (.slice (some ⟨b3,off3,none⟩) t.li.length c2) (.int .i64 j) (q:=wr.heap.size+1) (by simp) rfl rfl rfl
      have hwp1:IntKind.i64.wrap 1=1:=rfl
      have hwp2:IntKind.i64.wrap 2=2:=rfl
      go_wp2_with fail
      clear hst c0 c1 r3
      have hX:Box (wr.alloc (.cells #[.int .i64 j,.int .i64 2] 136)) wr.heap.size 136 #[.int .i64 j,.int .i64 2]:=Box.new wr 136 _
      have HRl:Hid (RtF w0 (wr.alloc (.cells #[.int .i64 j,.int .i64 2] 136)) q fr tt t a1 (some ⟨b3,off3,none⟩) a3 a4 c1 c2 c3 c4 (.slice oa (ovOf v tt).length oc) (.slice fa (v.fls t.li (t.li.take k)).length fc) (ovOf v tt) (v.fls t.li (t.li.take k))):=HR.out.mono (bel1 wr _)
      have FK0:FkS (wr.alloc (.cells #[.int .i64 j,.int .i64 2] 136)) bt (wr.heap.size+1) (.slice (some ⟨b3,off3,none⟩) t.li.length c2) j ((wr.alloc (.cells #[.int .i64 j,.int .i64 2] 136)).alloc (.cells (lookVs (.pointer (some ⟨bt,0,none⟩)) (.slice (some ⟨b3,off3,none⟩) t.li.length c2) (.int .i64 j)) 143)) (lookVs (.pointer (some ⟨bt,0,none⟩)) (.slice (some ⟨b3,off3,none⟩) t.li.length c2) (.int .i64 j)) (.slice none 0 0) [] []:=by have:=@FkS.start (wr.alloc (.cells #[.int .i64 j,.int .i64 2] 136)) bt (.slice (some ⟨b3,off3,none⟩) t.li.length c2) j;rwa [World.size_alloc] at this
      have BW:=bel1 (wr.alloc (.cells #[.int .i64 j,.int .i64 2] 136)) (.cells (lookVs (.pointer (some ⟨bt,0,none⟩)) (.slice (some ⟨b3,off3,none⟩) t.li.length c2) (.int .i64 j)) 143)
      have zl:wr.heap.size<(wr.alloc (.cells #[.int .i64 j,.int .i64 2] 136)).heap.size:=by simp
      generalize (lookVs (.pointer (some ⟨bt,0,none⟩)) (.slice (some ⟨b3,off3,none⟩) t.li.length c2) (.int .i64 j))=vs0 at FK0 BW ⊢
      generalize (wr.alloc (.cells #[.int .i64 j,.int .i64 2] 136))=wl at hX HRl FK0 BW zl ⊢
      generalize hwW:wl.alloc (.cells vs0 143)=w7 at FK0 BW ⊢
      clear hwW
      have HTl:Hid (TkAt wl bt v pa pc ja jc sa sc):=HT.out.mono HRl.out.bel lr
      have heo:=OK.out.enOk hjm (q:=1) (by omega)
      obtain ⟨b2,off2,hja2,_,hb2,hc2⟩:=HTl.out.net.j (by omega)
      obtain ⟨ea,ec,d0,d1,d2,hEs⟩:=hc2 j hjm
      subst hja2
      rw [hne3] at d2 hEs
      obtain ⟨b4,off4,rfl,_,hb4,hc4⟩:=hEs (by omega)
      obtain ⟨y0,y1⟩:=hc4 1 (by omega)
      clear d0 d1 hc2 hc4 hEs
      have zt:=HTl.out.lt
      have k0:w7.drew.cell? ⟨bt,1,none⟩=some (.slice (some ⟨b2,off2,none⟩) v.m jc):=(BW.cell (p:=⟨bt,1,none⟩) (by show bt<wl.heap.size;omega)).trans (HTl.out.j)
      have k1:w7.drew.cell? ⟨wr.heap.size,0,none⟩=some (.int .i64 j):=(BW.cell (p:=⟨wr.heap.size,0,none⟩) (by show wr.heap.size<wl.heap.size;omega)).trans (hX.cell 0)
      have k2:w7.drew.cell? ⟨wr.heap.size,1,none⟩=some (.int .i64 2):=(BW.cell (p:=⟨wr.heap.size,1,none⟩) (by show wr.heap.size<wl.heap.size;omega)).trans (hX.cell 1)
      have k3:w7.drew.cell? ⟨b2,off2+j*3+2,none⟩=some (.slice (some ⟨b4,off4,none⟩) 3 ec):=(BW.cell (p:=⟨b2,off2+j*3+2,none⟩) (by show b2<wl.heap.size;omega)).trans (d2)
      have k4:w7.drew.cell? ⟨b4,off4+2,none⟩=some (.int .i64 ((v.J j).E 1).pc):=(BW.cell (p:=⟨b4,off4+2,none⟩) (by show b4<wl.heap.size;omega)).trans (y0)
      have k5:w7.drew.cell? ⟨b4,off4+2+1,none⟩=some (.int .i64 ((v.J j).E 1).sd):=(BW.cell (p:=⟨b4,off4+2+1,none⟩) (by show b4<wl.heap.size;omega)).trans (y1)
      have hji:(j:Int)<(v.m:Int):=by omega
      have hj0:(0:Int)≤(j:Int):=by omega
      have HLs:Hid (LsAt 2 0 wl (.slice (some ⟨b3,off3,none⟩) t.li.length c2) t.li):=HRl.out.l.ls.mono (Nat.zero_le _) (Below.refl wl.heap.size wl) lr
      have HC7:Hid (Calls Tryz.prog 74 #[.pointer (some ⟨wr.heap.size+1,0,none⟩),.agg #[.int .i64 ((v.J j).E 1).pc,.int .i64 ((v.J j).E 1).sd]] w7.drew (FkTo wl bt (wr.heap.size+1) (.slice (some ⟨b3,off3,none⟩) t.li.length c2) j w7.drew (.slice none 0 0) ([] ++ (v.fl t.li j (2*v.n+1) [] ((v.J j).E 1)).2) (v.fl t.li j (2*v.n+1) [] ((v.J j).E 1)).1)):=from74 OK.out HTl.out t.li HLs.out (by omega) HLI.out.2 (2*v.n+1) w7.drew vs0 _ [] [] ((v.J j).E 1) heo (FK0.below (Below.refl _ _).drew) (Once.nil _ _ _) (by simp) (by simp)
      clear FK0 BW
      go_region_held3 (fun w'=>w'.cell? ⟨bt,1,none⟩=some (.slice (some ⟨b2,off2,none⟩) v.m jc)∧w'.cell? ⟨wr.heap.size,0,none⟩=some (.int .i64 j)∧w'.cell? ⟨wr.heap.size,1,none⟩=some (.int .i64 2)∧w'.cell? ⟨b2,off2+j*3+2,none⟩=some (.slice (some ⟨b4,off4,none⟩) 3 ec)∧w'.cell? ⟨b4,off4+2,none⟩=some (.int .i64 ((v.J j).E 1).pc)∧w'.cell? ⟨b4,off4+2+1,none⟩=some (.int .i64 ((v.J j).E 1).sd)) (go_keep) (first
       | (go_at_call 74;refine HC7.out.mono ?_;rintro e w8 ⟨rfl,vs8,fv8,FK8,hfr8,hmv8⟩;have m0:w8.cell? ⟨bt,1,none⟩=some (.slice (some ⟨b2,off2,none⟩) v.m jc):=(FK8.bel.cell (p:=⟨bt,1,none⟩) (by show bt<wl.heap.size;omega)).trans (HTl.out.j);have m1:w8.cell? ⟨wr.heap.size,0,none⟩=some (.int .i64 j):=(FK8.bel.cell (p:=⟨wr.heap.size,0,none⟩) (by show wr.heap.size<wl.heap.size;omega)).trans (hX.cell 0);have m2:w8.cell? ⟨wr.heap.size,1,none⟩=some (.int .i64 2):=(FK8.bel.cell (p:=⟨wr.heap.size,1,none⟩) (by show wr.heap.size<wl.heap.size;omega)).trans (hX.cell 1);have m3:w8.cell? ⟨b2,off2+j*3+2,none⟩=some (.slice (some ⟨b4,off4,none⟩) 3 ec):=(FK8.bel.cell (p:=⟨b2,off2+j*3+2,none⟩) (by show b2<wl.heap.size;omega)).trans (d2);have m4:w8.cell? ⟨b4,off4+2,none⟩=some (.int .i64 ((v.J j).E 1).pc):=(FK8.bel.cell (p:=⟨b4,off4+2,none⟩) (by show b4<wl.heap.size;omega)).trans (y0);have m5:w8.cell? ⟨b4,off4+2+1,none⟩=some (.int .i64 ((v.J j).E 1).sd):=(FK8.bel.cell (p:=⟨b4,off4+2+1,none⟩) (by show b4<wl.heap.size;omega)).trans (y1)))
      all_goals
       have HR8:Hid (RtF w0 w8 q fr tt t a1 (some ⟨b3,off3,none⟩) a3 a4 c1 c2 c3 c4 (.slice oa (ovOf v tt).length oc) (.slice fa (v.fls t.li (t.li.take k)).length fc) (ovOf v tt) (v.fls t.li (t.li.take k))):=HRl.out.mono FK8.bel
       obtain ⟨af8,cf8,hv8⟩:=FK8.own.val
       subst hv8
       rw [List.nil_append] at FK8
       have x7:w8.cell? ⟨q,7,none⟩=some (.slice fa (v.fls t.li (t.li.take k)).length fc):=HR8.out.box.cell 7
       have g7:=HR8.out.box.free 7
       have x203:w8.cell? ⟨wr.heap.size+1,203,none⟩=some (.slice af8 ([] ++ (v.fl t.li j (2*v.n+1) [] ((v.J j).E 1)).2).length cf8):=(FK8.box.cell 203).trans FK8.v203
       rw [List.nil_append] at x203
       have HO8:Hid (LsAt 4 0 w8 (.slice af8 (v.fl t.li j (2*v.n+1) [] ((v.J j).E 1)).2.length cf8) (v.fl t.li j (2*v.n+1) [] ((v.J j).E 1)).2):=FK8.own.ls.mono (Nat.zero_le _) (Below.refl w8.heap.size w8) lr
       have hgl:=(fl_grow OK.out t.li (j:Int) (2*v.n+1) [] ((v.J j).E 1) (Once.nil _ _ _) heo)
       have hg2:=hgl.1.len
       have hg3:=hgl.2.2.1
       have hnn:=OK.out.n1
       simp only [List.length_nil] at hg3
       have HFE:Hid (v.fls t.li (t.li.take k) ++ (v.fl t.li j (2*v.n+1) [] ((v.J j).E 1)).2=v.fls t.li (t.li.take (k+1))):=by
        show _=_
        have e1:t.li.take (k+1)=t.li.take k ++ [[(j:Int),(2:Nat)]]:=by rw [List.take_add_one,hrow];rfl
        rw [e1,fls_snoc]
        rfl
       have hfl2:(v.fls t.li (t.li.take (k+1))).length≤300*(k+1):=by rw [← HFE.out,List.length_append];omega
       have hbse:w0.heap.size≤w8.heap.size:=HR8.out.bel.size
       clear FK8 hfr8 hmv8 hgl HC7
       go_wp2_with (at_builtin;go_must (refine wpList_appsH _ rfl (.tmp 74) (.tmp 76) 62 rfl w0.heap.size 155 i5 _ 4 32 Tryz.underlying62 e51 e52 e53 e54 rfl (by decide) _ (v.fls t.li (t.li.take k)) rfl HR8.out.f _ (v.fl t.li j (2*v.n+1) [] ((v.J j).E 1)).2 rfl HO8.out (by simp only [maxLen];omega) (by omega) hbse ?_))
       refine Halt.mk fun v9 w9 ho9 hg9=>?_
       rw [HFE.out] at ho9
       obtain ⟨fa9,fc9,rfl⟩:=ho9.val
       have HR9:Hid (RtF w0 (w9.setCell ⟨q,7,none⟩ (.slice fa9 (v.fls t.li (t.li.take (k+1))).length fc9)) q fr tt t a1 (some ⟨b3,off3,none⟩) a3 a4 c1 c2 c3 c4 (.slice oa (ovOf v tt).length oc) (.slice fa9 (v.fls t.li (t.li.take (k+1))).length fc9) (ovOf v tt) (v.fls t.li (t.li.take (k+1)))):=HR8.out.app hg9 ho9
       have hb9:=HR8.out.box.grown hg9 (fun e=>HR8.out.f.off HR8.out.box (by decide) e rfl)
       have x79:w9.cell? ⟨q,7,none⟩=some (.slice fa (v.fls t.li (t.li.take k)).length fc):=hb9.cell 7
       have g79:=hb9.free 7
       clear hb9 ho9 hg9
       go_wp2_with fail
       go_roundw
       case rel=>exact ⟨k+1,fa9,fc9,by omega,by go_num,hfl2,HR9⟩
       case measure=>simp [intOf];omega
    ·obtain rfl:k=t.li.length:=by omega
     rw [List.take_length] at HR hfl
     have hp:w.heap.size≤w.heap.size+1:=by omega
     have q0:wr.cell? ⟨q,0,none⟩=some (.int .i64 fr):=HR.out.box.cell 0
     have q1:wr.cell? ⟨q,1,none⟩=some (.int .i64 tt):=HR.out.box.cell 1
     have q2:wr.cell? ⟨q,2,none⟩=some (.slice a1 t.st.length c1):=HR.out.box.cell 2
     have q3:wr.cell? ⟨q,3,none⟩=some (.slice a2 t.li.length c2):=HR.out.box.cell 3
     have q4:wr.cell? ⟨q,4,none⟩=some (.slice a3 t.cr.length c3):=HR.out.box.cell 4
     have q5:wr.cell? ⟨q,5,none⟩=some (.slice a4 t.pa.length c4):=HR.out.box.cell 5
     have q6:wr.cell? ⟨q,6,none⟩=some (.slice oa (ovOf v tt).length oc):=HR.out.box.cell 6
     have q7:wr.cell? ⟨q,7,none⟩=some (.slice fa (v.fls t.li t.li).length fc):=HR.out.box.cell 7
     have BR:Box wr (w.heap.size+1) 64 #[.int .i64 0,.int .i64 0,.slice none 0 0,.slice none 0 0,.slice none 0 0,.slice none 0 0,.slice none 0 0,.slice none 0 0]:=HB0.out.2.2.mono HR.out.bel lr
     have s0:wr.cell? ⟨w.heap.size+1,0,none⟩=some (.int .i64 0):=BR.cell 0
     have f0:=BR.free 0
     have s1:wr.cell? ⟨w.heap.size+1,1,none⟩=some (.int .i64 0):=BR.cell 1
     have f1:=BR.free 1
     have s2:wr.cell? ⟨w.heap.size+1,2,none⟩=some (.slice none 0 0):=BR.cell 2
     have f2:=BR.free 2
     have s3:wr.cell? ⟨w.heap.size+1,3,none⟩=some (.slice none 0 0):=BR.cell 3
     have f3:=BR.free 3
     have s4:wr.cell? ⟨w.heap.size+1,4,none⟩=some (.slice none 0 0):=BR.cell 4
     have f4:=BR.free 4
     have s5:wr.cell? ⟨w.heap.size+1,5,none⟩=some (.slice none 0 0):=BR.cell 5
     have f5:=BR.free 5
     have s6:wr.cell? ⟨w.heap.size+1,6,none⟩=some (.slice none 0 0):=BR.cell 6
     have f6:=BR.free 6
     have s7:wr.cell? ⟨w.heap.size+1,7,none⟩=some (.slice none 0 0):=BR.cell 7
     have f7:=BR.free 7
     have HBR:Hid (Box wr (w.heap.size+1) 64 #[.int .i64 0,.int .i64 0,.slice none 0 0,.slice none 0 0,.slice none 0 0,.slice none 0 0,.slice none 0 0,.slice none 0 0]):=BR
     clear BR
     go_wp2_with fail
     have hfin:∀ {e c:Nat} {u:Value} {l:List Rw},Own w0.heap.size e c wr u l→64≠e→Own w.heap.size e c (set8 wr (w.heap.size+1) (.int .i64 fr) (.int .i64 tt) (.slice a1 t.st.length c1) (.slice a2 t.li.length c2) (.slice a3 t.cr.length c3) (.slice a4 t.pa.length c4) (.slice oa (ovOf v tt).length oc) (.slice fa (v.fls t.li t.li).length fc)) u l:=fun h he=>(h.set8 HBR.out he _ _ _ _ _ _ _ _).keep HB0.out.1.size (fun _ _=>rfl)
     refine bodyPost_ret (res64 Tryz.results31 rfl (HBR.out.set8 (.int .i64 fr) (.int .i64 tt) (.slice a1 t.st.length c1) (.slice a2 t.li.length c2) (.slice a3 t.cr.length c3) (.slice a4 t.pa.length c4) (.slice oa (ovOf v tt).length oc) (.slice fa (v.fls t.li t.li).length fc))) rfl ⟨_,_,_,_,_,_,rfl,hfin HR.out.s (by decide),hfin HR.out.l (by decide),hfin HR.out.x (by decide),hfin HR.out.pt (by decide),hfin HR.out.o (by decide),hfin HR.out.f (by decide),set8_below (HB0.out.1.trans (HR.out.bel.mono HB0.out.1.size)) hp _ _ _ _ _ _ _ _,HR.out.ap,hfl⟩
abbrev Jt':=List (Option RtM)→World→(Nat→Prop)→Prop
structure JOk (n0:Nat)(J:Jt'):Prop where
 keep:∀ {pre:List (Option RtM)} {W W':World} {D:Nat→Prop},J pre W D→W.heap.size≤W'.heap.size→(∀ k,D k→W'.heap[k]?=W.heap[k]?)→J pre W' D
 lt:∀ {pre:List (Option RtM)} {W:World} {D:Nat→Prop},J pre W D→∀ k,D k→n0≤k∧k<W.heap.size
def TrB (sv pv lv xv:Value)(k:Nat):Prop:=sv.ownBlock=some k∨pv.ownBlock=some k∨lv.ownBlock=some k∨xv.ownBlock=some k
def ItOk (v:Ev)(fr:Int)(t:Tl)(tt:Int)(dn:Bool)(it:Option RtM):Prop:=
 (dn=true∧it=some (v.fin fr tt t (ovOf v tt))∧t.st.length≤1000∧t.pa.length≤1000∧t.li.length≤200∧t.cr.length≤1000∧LiOk v t.li∧LieK t.li∧(tt=-1∨(0≤tt∧tt<v.k)))∨(dn=false∧it=none)
def YPost (J Jx:Jt')(pre:List (Option RtM))(it:Option RtM)(W:World)(D:Nat→Prop)(e:Ending)(W':World):Prop:=
 ∃ D':Nat→Prop,Fr D W W'∧(∀ k,D' k→D k∨W.heap.size≤k)∧((e=.returned (.bool true)∧J (pre ++ [it]) W' D')∨(e=.returned (.bool false)∧Jx (pre ++ [it]) W' D'))
def Yd (v:Ev)(n0:Nat)(wB:World)(l:Nat)(fr:Int)(J Jx:Jt'):Prop:=
 ∀ (m:Nat) (pre:List (Option RtM)) (W:World) (D:Nat→Prop) (t:Tl) (tt:Int) (dn:Bool) (it:Option RtM) (sv pv lv xv:Value),J pre W D→Below n0 wB W→TlIn n0 W t sv lv xv pv→(∀ k,D k→¬TrB sv pv lv xv k)→ItOk v fr t tt dn it→
  YieldAt Fence.wide m Tryz.prog l #[.agg #[sv,pv,lv,xv,.int .i64 tt,.bool dn]] W (YPost J Jx pre it W D)
def CmP (n0:Nat)(J Jx:Jt')(L pre:List (Option RtM))(w:World)(D0:Nat→Prop)(t:Tl)(sv pv lv xv:Value)(e:Ending)(W:World):Prop:=
 ∃ D:Nat→Prop,(∀ k,D k→D0 k∨w.heap.size≤k)∧Fr (fun k=>D0 k∨TrB sv pv lv xv k) w W∧TlIn n0 W t sv lv xv pv∧((e=.returned (.bool true)∧J (pre ++ L) W D)∨(e=.returned (.bool false)∧∃ q,q <+: L∧Jx (pre ++ q) W D))
def CmC (v:Ev)(n0:Nat)(wB:World)(bt l:Nat)(fr:Int)(J Jx:Jt')(f:Nat):Prop:=
 ∀ (pre:List (Option RtM)) (w:World) (D:Nat→Prop) (t:Tl) (sv pv lv xv:Value) (p:Nat) (way far:Int),J pre w D→Below n0 wB w→TlIn n0 w t sv lv xv pv→(∀ k,D k→¬TrB sv pv lv xv k)→TlOk v t→LieK t.li→p<v.n→(way=1∨way=-1)→0≤far→far<(v.P p).ln→2*v.n+1≤f+t.st.length→
  Calls Tryz.prog 67 #[.pointer (some ⟨bt,0,none⟩),.agg #[sv,pv,lv,xv,.int .i64 0,.bool false],.agg #[.int .i64 (p:Int),.int .i64 way],.int .i64 far,.func (.yield l) #[] #[]] w (CmP n0 J Jx (v.walk fr f t p way far) pre w D t sv pv lv xv)
theorem TlIn.keep {B:Nat}{w w':World}{t:Tl}{sv lv xv qv:Value}(h:TlIn B w t sv lv xv qv)(hk:∀ k,TrB sv qv lv xv k→w'.heap[k]?=w.heap[k]?):TlIn B w' t sv lv xv qv:=
 ⟨h.s.keep lr fun g hg=>hk g (.inl hg),h.l.keep lr fun g hg=>hk g (.inr (.inr (.inl hg))),h.x.keep lr fun g hg=>hk g (.inr (.inr (.inr hg))),h.q.keep lr fun g hg=>hk g (.inr (.inl hg))⟩
theorem TlIn.lt {B:Nat}{w:World}{t:Tl}{sv lv xv qv:Value}(h:TlIn B w t sv lv xv qv){k:Nat}(hk:TrB sv qv lv xv k):B≤k∧k<w.heap.size:=by
 rcases hk with hk | hk | hk | hk
 ·exact h.s.lt hk
 ·exact h.q.lt hk
 ·exact h.l.lt hk
 ·exact h.x.lt hk
structure CmS (n0:Nat)(wB w:World)(D0:Nat→Prop)(J:Jt')(pre:List (Option RtM))(D:Nat→Prop)(t:Tl)(sv pv lv xv:Value)(s q:List Rw)(sv1 pv1:Value)(tt:Int)(dn:Bool)(p:Nat)(way:Int)(W:World):Prop where
 nz:n0≤w.heap.size
 bel:Below n0 wB W
 fr:Fr (fun k=>D0 k∨TrB sv pv lv xv k) w W
 j:J pre W D
 hd:∀ k,D k→D0 k∨w.heap.size≤k
 nd:∀ k,D k→¬TrB sv pv lv xv k∧sv1.ownBlock≠some k∧pv1.ownBlock≠some k∧k≠w.heap.size∧k≠w.heap.size+1
 bx:Box W w.heap.size 78 #[sv1,pv1,lv,xv,.int .i64 tt,.bool dn]
 bs:Box W (w.heap.size+1) 100 #[.int .i64 (p:Int),.int .i64 way]
 tl:TlIn n0 W t sv lv xv pv
 s1:Own n0 100 2 W sv1 s
 p1:Own n0 104 3 W pv1 q
 ms:∀ g,sv1.ownBlock=some g→sv.ownBlock=some g∨w.heap.size+2≤g
 mp:∀ g,pv1.ownBlock=some g→pv.ownBlock=some g∨w.heap.size+2≤g
 old:∀ k,TrB sv pv lv xv k→k<w.heap.size
section
variable {n0:Nat} {wB w:World} {D0 D:Nat→Prop} {J:Jt'} {pre:List (Option RtM)} {t:Tl} {sv pv lv xv:Value} {s q:List Rw} {sv1 pv1:Value} {tt:Int} {dn:Bool} {p:Nat} {way:Int} {W W':World}
theorem CmS.mono (hJ:JOk n0 J)(h:CmS n0 wB w D0 J pre D t sv pv lv xv s q sv1 pv1 tt dn p way W)(hb:Below W.heap.size W W'):CmS n0 wB w D0 J pre D t sv pv lv xv s q sv1 pv1 tt dn p way W':=
 ⟨h.nz,h.bel.trans (hb.mono (Nat.le_trans h.nz h.fr.size)),h.fr.trans (Fr.of_below hb),hJ.keep h.j hb.size (fun k hk=>hb.block k (hJ.lt h.j k hk).2),h.hd,h.nd,h.bx.mono hb lr,h.bs.mono hb lr,h.tl.mono hb lr,h.s1.mono lr hb lr,h.p1.mono lr hb lr,h.ms,h.mp,h.old⟩
theorem CmS.put (hJ:JOk n0 J)(h:CmS n0 wB w D0 J pre D t sv pv lv xv s q sv1 pv1 tt dn p way W)(j:Nat)(u:Value){tt':Int}{dn':Bool}(hu:(#[sv1,pv1,lv,xv,.int .i64 tt,.bool dn]:Array Value).setIfInBounds j u=#[sv1,pv1,lv,xv,.int .i64 tt',.bool dn']):
 CmS n0 wB w D0 J pre D t sv pv lv xv s q sv1 pv1 tt' dn' p way (W.setCell ⟨w.heap.size,j,none⟩ u):=by
 have hw:w.heap.size<W.heap.size:=h.bx.lt
 refine ⟨h.nz,h.bel.setCell (p:=⟨w.heap.size,j,none⟩) h.nz u,h.fr.then (Fr.set (X:=fun k=>k=w.heap.size) ⟨w.heap.size,j,none⟩ u rfl) (fun i hi e=>by omega),hJ.keep h.j (by rw [size_setc];exact Nat.le_refl _) (fun k hk=>Below.heap_setCell W _ u k (h.nd k hk).2.2.2.1),h.hd,h.nd,?_,h.bs.other (p:=⟨w.heap.size,j,none⟩) (by show w.heap.size+1≠w.heap.size;omega) u,h.tl.keep (fun k hk=>Below.heap_setCell W _ u k (fun e=>?_)),h.s1.set h.bx (by decide) j u,h.p1.set h.bx (by decide) j u,h.ms,h.mp,h.old⟩
 ·rw [← hu]
  exact h.bx.set j u
 ·have e':k=w.heap.size:=e
  rcases hk with hk | hk | hk | hk
  ·exact h.tl.s.off h.bx (by decide) hk e'
  ·exact h.tl.q.off h.bx (by decide) hk e'
  ·exact h.tl.l.off h.bx (by decide) hk e'
  ·exact h.tl.x.off h.bx (by decide) hk e'
theorem CmS.round {J':Jt'}{pre':List (Option RtM)}{D':Nat→Prop}(hJ:JOk n0 J)(h:CmS n0 wB w D0 J pre D t sv pv lv xv s q sv1 pv1 tt dn p way W)(hf:Fr D W W')(hD:∀ k,D' k→D k∨W.heap.size≤k)(hj:J' pre' W' D'):CmS n0 wB w D0 J' pre' D' t sv pv lv xv s q sv1 pv1 tt dn p way W':=by
 have hsz:=h.fr.size
 have hbx:=h.bx.lt
 have hbs:=h.bs.lt
 have kb:∀ k,k<W.heap.size→(D k→False)→W'.heap[k]?=W.heap[k]?:=fun k hk hn=>hf.block k hk hn
 refine ⟨h.nz,h.bel.trans (hf.below (Nat.le_trans h.nz hsz) (fun k hk hd=>by have:=(hJ.lt h.j k hd).1;omega)),h.fr.then hf (fun i hi hd=>?_),hj,fun k hk=>?_,fun k hk=>?_,h.bx.keep (kb _ hbx fun hd=>(h.nd _ hd).2.2.2.1 rfl),h.bs.keep (kb _ hbs fun hd=>(h.nd _ hd).2.2.2.2 rfl),h.tl.keep fun k hk=>kb k (h.tl.lt hk).2 fun hd=>(h.nd k hd).1 hk,h.s1.keep lr fun g hg=>kb g (h.s1.lt hg).2 fun hd=>(h.nd g hd).2.1 hg,h.p1.keep lr fun g hg=>kb g (h.p1.lt hg).2 fun hd=>(h.nd g hd).2.2.1 hg,h.ms,h.mp,h.old⟩
 ·rcases h.hd i hd with e | e
  ·exact .inl e
  ·omega
 ·rcases hD k hk with e | e
  ·exact h.hd k e
  ·exact .inr (by omega)
 ·rcases hD k hk with e | e
  ·exact h.nd k e
  ·refine ⟨fun x=>?_,fun x=>?_,fun x=>?_,by omega,by omega⟩
   ·have:=(h.tl.lt x).2;omega
   ·have:=(h.s1.lt x).2;omega
   ·have:=(h.p1.lt x).2;omega
theorem CmS.steps {s':List Rw}{sv2:Value}(hJ:JOk n0 J)(h:CmS n0 wB w D0 J pre D t sv pv lv xv s q sv pv1 tt dn p way W)(ha:Appd W W' sv sv2)(ho:Own n0 100 2 W' sv2 s')(hs:Own n0 100 2 W' sv t.st):
 CmS n0 wB w D0 J pre D t sv pv lv xv s' q sv2 pv1 tt dn p way (W'.setCell ⟨w.heap.size,0,none⟩ sv2):=by
 have hw:w.heap.size<W.heap.size:=h.bx.lt
 have hw1:w.heap.size+1<W.heap.size:=h.bs.lt
 have hsz:=h.fr.size
 have hz:W.heap.size≤W'.heap.size:=ha.fr.size
 have hbx:Box W' w.heap.size 78 #[sv,pv1,lv,xv,.int .i64 tt,.bool dn]:=h.bx.grown ha.fr (fun e=>h.tl.s.off h.bx (by decide) e rfl)
 have hbs:Box W' (w.heap.size+1) 100 #[.int .i64 (p:Int),.int .i64 way]:=h.bs.grown ha.fr (fun e=>by have:=h.old _ (.inl e);omega)
 have kp:∀ k,k<W.heap.size→sv.ownBlock≠some k→W'.heap[k]?=W.heap[k]?:=fun k hk hn=>ha.fr.block k hk (fun e=>hn e.symm)
 have hl:Own n0 136 2 W' lv t.li:=h.tl.l.grown ha.fr (fun g hv e=>h.tl.l.ne h.tl.s (by decide) hv e)
 have hx:Own n0 3 1 W' xv t.cr:=h.tl.x.grown ha.fr (fun g hv e=>h.tl.x.ne h.tl.s (by decide) hv e)
 have hq:Own n0 104 3 W' pv t.pa:=h.tl.q.grown ha.fr (fun g hv e=>h.tl.q.ne h.tl.s (by decide) hv e)
 have hp:Own n0 104 3 W' pv1 q:=h.p1.grown ha.fr (fun g hv e=>h.p1.ne h.tl.s (by decide) hv e)
 refine ⟨h.nz,(h.bel.grown ha.fr (Nat.le_trans h.nz hsz) (fun k e=>(h.tl.s.lt e).1)).setCell (p:=⟨w.heap.size,0,none⟩) h.nz sv2,(h.fr.trans (Fr.of_grown ha.fr (fun k e _=>.inr (.inl e)))).then (Fr.set (X:=fun k=>k=w.heap.size) ⟨w.heap.size,0,none⟩ sv2 rfl) (fun i hi e=>by omega),hJ.keep h.j (by rw [size_setc];exact hz) (fun k hk=>(Below.heap_setCell W' _ sv2 k (h.nd k hk).2.2.2.1).trans (kp k (hJ.lt h.j k hk).2 (fun e=>(h.nd k hk).1 (.inl e)))),h.hd,fun k hk=>⟨(h.nd k hk).1,fun e=>?_,(h.nd k hk).2.2.1,(h.nd k hk).2.2.2.1,(h.nd k hk).2.2.2.2⟩,hbx.set 0 sv2,hbs.other (p:=⟨w.heap.size,0,none⟩) (by show w.heap.size+1≠w.heap.size;omega) sv2,⟨hs.set hbx (by decide) 0 sv2,hl.set hbx (by decide) 0 sv2,hx.set hbx (by decide) 0 sv2,hq.set hbx (by decide) 0 sv2⟩,ho.set hbx (by decide) 0 sv2,hp.set hbx (by decide) 0 sv2,fun g hg=>?_,h.mp,h.old⟩
 ·rcases ha.moved k e with e1 | e1
  ·exact (h.nd k hk).1 (.inl e1)
  ·have:=(hJ.lt h.j k hk).2;omega
 ·rcases ha.moved g hg with e1 | e1
  ·exact .inl e1
  ·exact .inr (by omega)
theorem CmS.parts {q':List Rw}{pv2:Value}(hJ:JOk n0 J)(h:CmS n0 wB w D0 J pre D t sv pv lv xv s q sv1 pv tt dn p way W)(ha:Appd W W' pv pv2)(ho:Own n0 104 3 W' pv2 q')(hs:Own n0 104 3 W' pv t.pa):
 CmS n0 wB w D0 J pre D t sv pv lv xv s q' sv1 pv2 tt dn p way (W'.setCell ⟨w.heap.size,1,none⟩ pv2):=by
 have hw:w.heap.size<W.heap.size:=h.bx.lt
 have hw1:w.heap.size+1<W.heap.size:=h.bs.lt
 have hsz:=h.fr.size
 have hz:W.heap.size≤W'.heap.size:=ha.fr.size
 have hbx:Box W' w.heap.size 78 #[sv1,pv,lv,xv,.int .i64 tt,.bool dn]:=h.bx.grown ha.fr (fun e=>h.tl.q.off h.bx (by decide) e rfl)
 have hbs:Box W' (w.heap.size+1) 100 #[.int .i64 (p:Int),.int .i64 way]:=h.bs.grown ha.fr (fun e=>h.tl.q.off h.bs (by decide) e rfl)
 have kp:∀ k,k<W.heap.size→pv.ownBlock≠some k→W'.heap[k]?=W.heap[k]?:=fun k hk hn=>ha.fr.block k hk (fun e=>hn e.symm)
 have hl:Own n0 136 2 W' lv t.li:=h.tl.l.grown ha.fr (fun g hv e=>h.tl.l.ne h.tl.q (by decide) hv e)
 have hx:Own n0 3 1 W' xv t.cr:=h.tl.x.grown ha.fr (fun g hv e=>h.tl.x.ne h.tl.q (by decide) hv e)
 have hs':Own n0 100 2 W' sv t.st:=h.tl.s.grown ha.fr (fun g hv e=>h.tl.s.ne h.tl.q (by decide) hv e)
 have hp:Own n0 100 2 W' sv1 s:=h.s1.grown ha.fr (fun g hv e=>h.s1.ne h.tl.q (by decide) hv e)
 refine ⟨h.nz,(h.bel.grown ha.fr (Nat.le_trans h.nz hsz) (fun k e=>(h.tl.q.lt e).1)).setCell (p:=⟨w.heap.size,1,none⟩) h.nz pv2,(h.fr.trans (Fr.of_grown ha.fr (fun k e _=>.inr (.inr (.inl e))))).then (Fr.set (X:=fun k=>k=w.heap.size) ⟨w.heap.size,1,none⟩ pv2 rfl) (fun i hi e=>by omega),hJ.keep h.j (by rw [size_setc];exact hz) (fun k hk=>(Below.heap_setCell W' _ pv2 k (h.nd k hk).2.2.2.1).trans (kp k (hJ.lt h.j k hk).2 (fun e=>(h.nd k hk).1 (.inr (.inl e))))),h.hd,fun k hk=>⟨(h.nd k hk).1,(h.nd k hk).2.1,fun e=>?_,(h.nd k hk).2.2.2.1,(h.nd k hk).2.2.2.2⟩,hbx.set 1 pv2,hbs.other (p:=⟨w.heap.size,1,none⟩) (by show w.heap.size+1≠w.heap.size;omega) pv2,⟨hs'.set hbx (by decide) 1 pv2,hl.set hbx (by decide) 1 pv2,hx.set hbx (by decide) 1 pv2,hs.set hbx (by decide) 1 pv2⟩,hp.set hbx (by decide) 1 pv2,ho.set hbx (by decide) 1 pv2,h.ms,fun g hg=>?_,h.old⟩
 ·rcases ha.moved k e with e1 | e1
  ·exact (h.nd k hk).1 (.inr (.inl e1))
  ·have:=(hJ.lt h.j k hk).2;omega
 ·rcases ha.moved g hg with e1 | e1
  ·exact .inl e1
  ·exact .inr (by omega)
theorem CmS.free (h:CmS n0 wB w D0 J pre D t sv pv lv xv s q sv1 pv1 tt dn p way W):∀ k,D k→¬TrB sv1 pv1 lv xv k:=fun k hk hx=>by
 rcases hx with hx | hx | hx | hx
 ·exact (h.nd k hk).2.1 hx
 ·exact (h.nd k hk).2.2.1 hx
 ·exact (h.nd k hk).1 (.inr (.inr (.inl hx)))
 ·exact (h.nd k hk).1 (.inr (.inr (.inr hx)))
theorem CmS.now (h:CmS n0 wB w D0 J pre D t sv pv lv xv s q sv1 pv1 tt dn p way W):TlIn n0 W { t with st:=s,pa:=q } sv1 lv xv pv1:=⟨h.s1,h.tl.l,h.tl.x,h.p1⟩
theorem CmS.start (hJ:JOk n0 J)(hn:n0≤w.heap.size)(hj:J pre w D)(hb:Below n0 wB w)(ht:TlIn n0 w t sv lv xv pv)(hd:∀ k,D k→¬TrB sv pv lv xv k):
 CmS n0 wB w D J pre D t sv pv lv xv t.st t.pa sv pv 0 false p way ((w.alloc (.cells #[sv,pv,lv,xv,.int .i64 0,.bool false] 78)).alloc (.cells #[.int .i64 (p:Int),.int .i64 way] 100)):=by
 have b2:=bel2 w (.cells #[sv,pv,lv,xv,.int .i64 0,.bool false] 78) (.cells #[.int .i64 (p:Int),.int .i64 way] 100)
 have ht2:=ht.mono b2 lr
 refine ⟨hn,hb.trans (b2.mono hn),Fr.of_below b2,hJ.keep hj b2.size (fun k hk=>b2.block k (hJ.lt hj k hk).2),fun k hk=>.inl hk,fun k hk=>?_,(Box.new w 78 _).alloc _,?_,ht2,ht2.s,ht2.q,fun g hg=>.inl hg,fun g hg=>.inl hg,fun k hk=>(ht.lt hk).2⟩
 ·have:=(hJ.lt hj k hk).2
  exact ⟨hd k hk,fun e=>hd k hk (.inl e),fun e=>hd k hk (.inr (.inl e)),by omega,by omega⟩
 ·have:=Box.new (w.alloc (.cells #[sv,pv,lv,xv,.int .i64 0,.bool false] 78)) 100 #[.int .i64 (p:Int),.int .i64 way]
  rwa [World.size_alloc] at this
end
end Go.Proofs.YtkhaehpobpkkiaaGreat
