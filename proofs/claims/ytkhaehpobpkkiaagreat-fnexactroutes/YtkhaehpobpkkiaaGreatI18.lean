import Derived.Deep.RegionHeld3
import Derived.Deep.RegionLaw
import Derived.Deep.CutBlock
import Derived.RangeFuncNested
import Derived.TacticsInMore
import Derived.OwnWalkIn
import Derived.Test.YtkhaehpobpkkiaaGreatIe
import Derived.Test.YtkhaehpobpkkiaaGreatIf
namespace Go.Proofs.YtkhaehpobpkkiaaGreat
open Go.RowKit
attribute [local go_sem] Oper.semAt_some
def exF (kd:Int)(q:Nat):List Nat:=if kd=1 then [] else acrossF kd.toNat q
theorem meth1 (w:World):(method 316 195 (.agg #[]) "loop.example/signalbox/impl.over").run Tryz.prog w=.ok (147,.agg #[]) w:=by kernel_rfl
theorem meth2 (w:World):(method 316 198 (.agg #[]) "loop.example/signalbox/impl.over").run Tryz.prog w=.ok (149,.agg #[]) w:=by kernel_rfl
theorem meth3 (w:World):(method 316 194 (.agg #[]) "loop.example/signalbox/impl.over").run Tryz.prog w=.ok (145,.agg #[]) w:=by kernel_rfl
theorem meth4 (w:World):(method 316 193 (.agg #[]) "loop.example/signalbox/impl.over").run Tryz.prog w=.ok (143,.agg #[]) w:=by kernel_rfl
def Ev.nxO (v:Ev)(fr:Int)(f j x:Nat):Option Tl→List (Option RtM)
 | none=>[]
 | some t2=>v.walk fr f t2 ((v.J j).E x).pc.toNat (wayOf ((v.J j).E x)) 0
def Ev.nxt (v:Ev)(fr:Int)(f:Nat)(t:Tl)(j q:Nat)(x:Nat):List (Option RtM):=v.nxO fr f j x (t.over (v.J j).kd j q x)
theorem across_ok {kd:Int}{ne q:Nat}(h1:kd≠1)(hk:1≤kd∧kd≤4∧(ne:Int)=kd)(hq:q<ne):0<(acrossF kd.toNat q).length∧(acrossF kd.toNat q).length≤2∧∀ x,x ∈ acrossF kd.toNat q→x<ne:=by
 rcases (show kd=2∨kd=3∨kd=4 by omega) with rfl | rfl | rfl
 ·obtain rfl:ne=2:=by omega
  rcases (show q=0∨q=1 by omega) with rfl | rfl <;> simp [acrossF]
 ·obtain rfl:ne=3:=by omega
  rcases (show q=0∨q=1∨q=2 by omega) with rfl | rfl | rfl <;> simp [acrossF]
 ·obtain rfl:ne=4:=by omega
  rcases (show q=0∨q=1∨q=2∨q=3 by omega) with rfl | rfl | rfl | rfl <;> simp [acrossF]
set_option maxRecDepth 100000 in
set_option maxHeartbeats 16000000 in
theorem comeB {v:Ev}(ok:v.Ok){n0:Nat}{wB:World}{bt l:Nat}{fr:Int}{J Jx:Jt'}{pa:Option Addr}{pc:Nat}{ja:Option Addr}{jc:Nat}{sa:Option Addr}{sc:Nat}(hT:TkAt wB bt v pa pc ja jc sa sc)(hbt:wB.heap.size≤n0)(hn0:n0≤wB.heap.size)(hJ:JOk n0 J)(hY:Yd v n0 wB l fr J Jx)(f:Nat)(pre:List (Option RtM))(w:World)(D:Nat→Prop)(t:Tl)(sv pv lv xv:Value)(p:Nat)(way far:Int)(hj:J pre w D)(hb:Below n0 wB w)(ht:TlIn n0 w t sv lv xv pv)(hd:∀ k,D k→¬TrB sv pv lv xv k)(hok:TlOk v t)(hlk:LieK t.li)(hp:p<v.n)(hw:way=1∨way=-1)(hf0:0≤far)(hf1:far<(v.P p).ln)(hnx:nextS (v.P p).ln v.S p way far v.k=none)(ih:CmC v n0 wB bt l fr J Jx f)(hfu:2*v.n+1≤f+1+t.st.length):
 Calls Tryz.prog 67 #[.pointer (some ⟨bt,0,none⟩),.agg #[sv,pv,lv,xv,.int .i64 0,.bool false],.agg #[.int .i64 (p:Int),.int .i64 way],.int .i64 far,.func (.yield l) #[] #[]] w (CmP n0 J Jx (v.walk fr (f+1) t p way far) pre w D t sv pv lv xv):=by
 have hst:=hok.st.len
 have hn1:=ok.n1
 have OK:Hid v.Ok:=ok
 have HT:Hid (TkAt wB bt v pa pc ja jc sa sc):=hT
 have HJ:Hid (JOk n0 J):=hJ
 have HY:Hid (Yd v n0 wB l fr J Jx):=hY
 have HOK:Hid (TlOk v t∧LieK t.li):=⟨hok,hlk⟩
 have hll:=hok.ll
 have hpl:=hok.pl
 have hcl:=hok.cl
 obtain ⟨sa1,sc1,hv⟩:=ht.s.val
 subst hv
 obtain ⟨pa1,pc1,hv⟩:=ht.q.val
 subst hv
 obtain ⟨la,lc,hv⟩:=ht.l.val
 subst hv
 obtain ⟨xa,xc,hv⟩:=ht.x.val
 subst hv
 have HW0:Hid (CmS n0 wB w D J (pre) D t (.slice sa1 t.st.length sc1) (.slice pa1 t.pa.length pc1) (.slice la t.li.length lc) (.slice xa t.cr.length xc) (t.st) (t.pa) (.slice sa1 t.st.length sc1) (.slice pa1 t.pa.length pc1) 0 false p way ((w.alloc (.cells #[.slice sa1 t.st.length sc1,.slice pa1 t.pa.length pc1,.slice la t.li.length lc,.slice xa t.cr.length xc,.int .i64 0,.bool false] 78)).alloc (.cells #[.int .i64 (p:Int),.int .i64 way] 100))):=CmS.start hJ (Nat.le_trans hn0 hb.size) hj hb ht hd
 obtain ⟨i1,e11,e12,e13,e14⟩:=info_parts infoStep
 obtain ⟨i4,e41,e42,e43,e44⟩:=info_parts infoPart
 have HDw:Hid (∀ k,D k→k<w.heap.size):=fun k hk=>(hJ.lt hj k hk).2
 clear hT hJ hY hok hlk hj hb ht hd ok
 go_enter Tryz.func67,Tryz.ntmps67
 go_wp2_with fail
 generalize ((w.alloc (.cells #[.slice sa1 t.st.length sc1,.slice pa1 t.pa.length pc1,.slice la t.li.length lc,.slice xa t.cr.length xc,.int .i64 0,.bool false] 78)).alloc (.cells #[.int .i64 (p:Int),.int .i64 way] 100))=w0 at HW0 ⊢
 refine (contains94 _ t.st p way _ (by omega) (HW0.out.tl.s.ls.mono zl (Below.refl w0.heap.size w0) lr)).mono ?_
 rintro e w1 ⟨rfl,hb1⟩
 have HW1:Hid (CmS n0 wB w D J (pre) D t (.slice sa1 t.st.length sc1) (.slice pa1 t.pa.length pc1) (.slice la t.li.length lc) (.slice xa t.cr.length xc) (t.st) (t.pa) (.slice sa1 t.st.length sc1) (.slice pa1 t.pa.length pc1) 0 false p way w1):=HW0.out.mono HJ.out hb1
 clear HW0 hb1
 have x0:w1.cell? ⟨w.heap.size,0,none⟩=some (.slice sa1 t.st.length sc1):=HW1.out.bx.cell 0
 have x1:w1.cell? ⟨w.heap.size,1,none⟩=some (.slice pa1 t.pa.length pc1):=HW1.out.bx.cell 1
 have x2:w1.cell? ⟨w.heap.size,2,none⟩=some (.slice la t.li.length lc):=HW1.out.bx.cell 2
 have x3:w1.cell? ⟨w.heap.size,3,none⟩=some (.slice xa t.cr.length xc):=HW1.out.bx.cell 3
 have x4:w1.cell? ⟨w.heap.size,4,none⟩=some (.int .i64 0):=HW1.out.bx.cell 4
 have x5:w1.cell? ⟨w.heap.size,5,none⟩=some (.bool false):=HW1.out.bx.cell 5
 have y0:w1.cell? ⟨w.heap.size+1,0,none⟩=some (.int .i64 (p:Int)):=HW1.out.bs.cell 0
 have y1:w1.cell? ⟨w.heap.size+1,1,none⟩=some (.int .i64 way):=HW1.out.bs.cell 1
 have z1:=HW1.out.bx.lt
 have z2:=HW1.out.bs.lt
 have zn:=Nat.le_trans HW1.out.nz HW1.out.fr.size
 go_wp2_with (at_builtin;go_must (refine wpList_appH _ rfl (.tmp 24) (.tmp 26) 58 rfl n0 100 i1 _ 2 16 Tryz.underlying58 e11 e12 e13 e14 rfl (by decide) _ t.st rfl (HW1.out.tl.s.alloc _) ⟨w1.heap.size,0,none⟩ 1 1 [[(p:Int),way]] rfl rfl (by decide) (Wide.one rfl) (news_at [(p:Int),way] rfl) (by simp [maxLen];omega) (by omega) (by simp;omega) ?_))
 refine Halt.mk fun v2 w2 ho2 hs2 ha2=>?_
 obtain ⟨sa2,sc2,rfl⟩:=ho2.val
 rw [List.length_append] at ho2 ha2 ⊢
 have HW2:Hid (CmS n0 wB w D J (pre) D t (.slice sa1 t.st.length sc1) (.slice pa1 t.pa.length pc1) (.slice la t.li.length lc) (.slice xa t.cr.length xc) (t.st ++ [[(p:Int),way]]) (t.pa) (.slice sa2 (t.st.length+1) sc2) (.slice pa1 t.pa.length pc1) 0 false p way (w2.setCell ⟨w.heap.size,0,none⟩ (.slice sa2 (t.st.length+1) sc2))):=(HW1.out.mono HJ.out (bel1 w1 _)).steps HJ.out ha2 ho2 hs2
 have hbq:=((HW1.out.mono HJ.out (bel1 w1 (.cells #[.int .i64 (p:Int),.int .i64 way] 100))).bx).grown ha2.fr (fun e=>(HW1.out.mono HJ.out (bel1 w1 (.cells #[.int .i64 (p:Int),.int .i64 way] 100))).tl.s.off (HW1.out.mono HJ.out (bel1 w1 (.cells #[.int .i64 (p:Int),.int .i64 way] 100))).bx (by decide) e rfl)
 have q0:w2.cell? ⟨w.heap.size,0,none⟩=some (.slice sa1 t.st.length sc1):=hbq.cell 0
 have g0:=hbq.free 0
 have u0:(w2.setCell ⟨w.heap.size,0,none⟩ (.slice sa2 (t.st.length+1) sc2)).cell? ⟨w.heap.size+1,0,none⟩=some (.int .i64 (p:Int)):=HW2.out.bs.cell 0
 have u1:(w2.setCell ⟨w.heap.size,0,none⟩ (.slice sa2 (t.st.length+1) sc2)).cell? ⟨w.heap.size+1,1,none⟩=some (.int .i64 way):=HW2.out.bs.cell 1
 clear hbq ho2 hs2 ha2 HW1 x0 x1 x2 x3 x4 x5 y0 y1 z1 z2 zn
 go_wp2_with fail
 clear q0 g0 u0 u1
 generalize (w2.setCell ⟨w.heap.size,0,none⟩ (.slice sa2 (t.st.length+1) sc2))=w3 at HW2 ⊢
 refine (next95 OK.out p way far _ (HT.out.mono HW2.out.bel hbt) hp hw).mono ?_
 rintro e w4 ⟨rfl,hb4⟩
 have HW4:Hid (CmS n0 wB w D J (pre) D t (.slice sa1 t.st.length sc1) (.slice pa1 t.pa.length pc1) (.slice la t.li.length lc) (.slice xa t.cr.length xc) (t.st ++ [[(p:Int),way]]) (t.pa) (.slice sa2 (t.st.length+1) sc2) (.slice pa1 t.pa.length pc1) 0 false p way w4):=HW2.out.mono HJ.out hb4
 clear HW2 hb4
 have IH:Hid (CmC v n0 wB bt l fr J Jx f):=ih
 clear ih
 rw [hnx,show bestV none=-1 from rfl]
 go_wp2_with fail
 have hlnp:=OK.out.ln p hp
 have hen:0≤(v.P p).ln∧(v.P p).ln≤10000000:=by omega
 have HNX:Hid (nextS (v.P p).ln v.S p way far v.k=none):=hnx
 clear hnx
 go_cut [] from 19 (fun wx=>∃ pa2 pc2,Hid (CmS n0 wB w D J (pre) D t (.slice sa1 t.st.length sc1) (.slice pa1 t.pa.length pc1) (.slice la t.li.length lc) (.slice xa t.cr.length xc) (t.st ++ [[(p:Int),way]]) (t.pa ++ [partR (v.P p).ln p way far ((v.P p).ln)]) (.slice sa2 (t.st.length+1) sc2) (.slice pa2 (t.pa.length+1) pc2) 0 false p way wx))
 case first=>
  have HW4d:Hid (CmS n0 wB w D J (pre) D t (.slice sa1 t.st.length sc1) (.slice pa1 t.pa.length pc1) (.slice la t.li.length lc) (.slice xa t.cr.length xc) (t.st ++ [[(p:Int),way]]) (t.pa) (.slice sa2 (t.st.length+1) sc2) (.slice pa1 t.pa.length pc1) 0 false p way w4.drew):=HW4.out.mono HJ.out (Below.refl _ _).drew
  have c00:w4.drew.cell? ⟨w.heap.size+1,0,none⟩=some (.int .i64 (p:Int)):=HW4d.out.bs.cell 0
  have c01:w4.drew.cell? ⟨w.heap.size+1,1,none⟩=some (.int .i64 way):=HW4d.out.bs.cell 1
  have x0p:w4.drew.cell? ⟨w.heap.size,1,none⟩=some (.slice pa1 t.pa.length pc1):=HW4d.out.bx.cell 1
  refine wp_region_held_drew (S:=(fun w'=>w'.cell? ⟨w.heap.size+1,0,none⟩=some (.int .i64 (p:Int))∧w'.cell? ⟨w.heap.size+1,1,none⟩=some (.int .i64 way))) (by kernel_rfl) ⟨c00,c01⟩ (fun hHeld=>?_)
  refine wpAnyH_take (i:=0) (oi:={ dst:=some 61,op:=Op.fieldAddr 78 (Operand.tmp 6) 1,type:=0,pos:= "l2_route.go:186",after:=#[],guard:=none }) (v:=.pointer (some ⟨w.heap.size,1,none⟩)) rfl (by kernel_rfl) (by kernel_rfl) (by kernel_rfl) (fun _ _ _ h=>h) (Or.inl ⟨by rfl,?_⟩) (by assumption) ?_
  ·(intro w hSw;(try dsimp only at hSw);go_simp)
  try simp only [Act.put,List.setIfInBounds_toArray,List.set_cons_zero,List.set_cons_succ]
  refine wpAnyH_take (i:=2) (oi:={ dst:=some 63,op:=Op.move (Operand.tmp 0),type:=72,pos:= "l2_route.go:186",after:=#[],guard:=none }) (v:=.pointer (some ⟨bt,0,none⟩)) rfl (by kernel_rfl) (by kernel_rfl) (by kernel_rfl) (fun _ _ _ h=>h) (Or.inl ⟨by rfl,?_⟩) (by assumption) ?_
  ·(intro w hSw;(try dsimp only at hSw);go_simp)
  try simp only [Act.put,List.setIfInBounds_toArray,List.set_cons_zero,List.set_cons_succ]
  refine wpAnyH_take (i:=3) (oi:={ dst:=some 64,op:=Op.load 100 (Operand.tmp 7),type:=100,pos:= "l2_route.go:186",after:=#[],guard:=none }) (v:=.agg #[.int .i64 (p:Int),.int .i64 way]) rfl (by kernel_rfl) (by kernel_rfl) (by kernel_rfl) (fun _ _ _ h=>h) (Or.inl ⟨by rfl,?_⟩) (by assumption) ?_
  ·(intro w hSw;(try dsimp only at hSw);go_simp)
  try simp only [Act.put,List.setIfInBounds_toArray,List.set_cons_zero,List.set_cons_succ]
  refine wpAnyH_take (i:=4) (oi:={ dst:=some 65,op:=Op.move (Operand.tmp 3),type:=3,pos:= "l2_route.go:186",after:=#[],guard:=none }) (v:=.int .i64 far) rfl (by kernel_rfl) (by kernel_rfl) (by kernel_rfl) (fun _ _ _ h=>h) (Or.inl ⟨by rfl,?_⟩) (by assumption) ?_
  ·(intro w hSw;(try dsimp only at hSw);go_simp)
  try simp only [Act.put,List.setIfInBounds_toArray,List.set_cons_zero,List.set_cons_succ]
  refine wpAnyH_take (i:=5) (oi:={ dst:=some 66,op:=Op.move (Operand.tmp 0),type:=72,pos:= "l2_route.go:186",after:=#[],guard:=none }) (v:=.pointer (some ⟨bt,0,none⟩)) rfl (by kernel_rfl) (by kernel_rfl) (by kernel_rfl) (fun _ _ _ h=>h) (Or.inl ⟨by rfl,?_⟩) (by assumption) ?_
  ·(intro w hSw;(try dsimp only at hSw);go_simp)
  try simp only [Act.put,List.setIfInBounds_toArray,List.set_cons_zero,List.set_cons_succ]
  refine wpAnyH_take (i:=6) (oi:={ dst:=some 67,op:=Op.load 100 (Operand.tmp 7),type:=100,pos:= "l2_route.go:186",after:=#[],guard:=none }) (v:=.agg #[.int .i64 (p:Int),.int .i64 way]) rfl (by kernel_rfl) (by kernel_rfl) (by kernel_rfl) (fun _ _ _ h=>h) (Or.inl ⟨by rfl,?_⟩) (by assumption) ?_
  ·(intro w hSw;(try dsimp only at hSw);go_simp)
  try simp only [Act.put,List.setIfInBounds_toArray,List.set_cons_zero,List.set_cons_succ]
  refine wpAnyH_ready (rs:=[1,7]) (by kernel_rfl) (by simp) ?_
  refine AllReadyH.cons (o:={ dst:=some 62,op:=Op.load 61 (Operand.tmp 61),type:=61,pos:= "l2_route.go:186",after:=#[{ on:=0,ground:=Ground.data }],guard:=none }) rfl (fun KK hKK=>?_) ?_
  ·go_simp
   refine hKK.out _ _ ?_ (fun hHeld=>?_)
   ·exact ⟨c00,c01⟩
   clear hKK KK
   try simp only [Act.put,List.setIfInBounds_toArray,List.set_cons_zero,List.set_cons_succ]
   refine wpAnyH_ready (rs:=[7]) (by kernel_rfl) (by simp) ?_
   refine AllReadyH.cons (o:={ dst:=some 68,op:=Op.call { callee:=Callee.value (Operand.func 97),args:=#[Operand.tmp 66,Operand.tmp 67],argTypes:=#[72,100] },type:=3,pos:= "l2_route.go:186",after:=#[{ on:=5,ground:=Ground.data },{ on:=6,ground:=Ground.data }],guard:=none }) rfl (fun KK hKK=>?_) ?_
   ·go_simp
    refine (long97 OK.out p way _ (HT.out.mono HW4d.out.bel hbt) hp).mono ?_
    rintro e w5 ⟨rfl,hb0⟩
    have HW5:Hid (CmS n0 wB w D J (pre) D t (.slice sa1 t.st.length sc1) (.slice pa1 t.pa.length pc1) (.slice la t.li.length lc) (.slice xa t.cr.length xc) (t.st ++ [[(p:Int),way]]) (t.pa) (.slice sa2 (t.st.length+1) sc2) (.slice pa1 t.pa.length pc1) 0 false p way w5):=HW4d.out.mono HJ.out hb0
    clear hb0
    have c10:w5.cell? ⟨w.heap.size+1,0,none⟩=some (.int .i64 (p:Int)):=HW5.out.bs.cell 0
    have c11:w5.cell? ⟨w.heap.size+1,1,none⟩=some (.int .i64 way):=HW5.out.bs.cell 1
    have x1p:w5.cell? ⟨w.heap.size,1,none⟩=some (.slice pa1 t.pa.length pc1):=HW5.out.bx.cell 1
    go_wp2_with fail
    refine hKK.out _ _ ?_ (fun hHeld=>?_)
    ·exact ⟨c10,c11⟩
    clear hKK KK
    try simp only [Act.put,List.setIfInBounds_toArray,List.set_cons_zero,List.set_cons_succ]
    refine wpAnyH_ready (rs:=[8]) (by kernel_rfl) (by simp) ?_
    refine AllReadyH.cons (o:={ dst:=some 69,op:=Op.call { callee:=Callee.value (Operand.func 96),args:=#[Operand.tmp 63,Operand.tmp 64,Operand.tmp 65,Operand.tmp 68],argTypes:=#[72,100,3,3] },type:=104,pos:= "l2_route.go:186",after:=#[{ on:=2,ground:=Ground.data },{ on:=3,ground:=Ground.data },{ on:=4,ground:=Ground.data },{ on:=7,ground:=Ground.data },{ on:=7,ground:=Ground.chain }],guard:=none }) rfl (fun KK hKK=>?_) ?_
    ·go_simp
     refine (part96 OK.out p way far ((v.P p).ln) _ (HT.out.mono HW5.out.bel hbt) hp hw ⟨hf0,by omega⟩ hen).mono ?_
     rintro e w6 ⟨rfl,hb1⟩
     have HW6:Hid (CmS n0 wB w D J (pre) D t (.slice sa1 t.st.length sc1) (.slice pa1 t.pa.length pc1) (.slice la t.li.length lc) (.slice xa t.cr.length xc) (t.st ++ [[(p:Int),way]]) (t.pa) (.slice sa2 (t.st.length+1) sc2) (.slice pa1 t.pa.length pc1) 0 false p way w6):=HW5.out.mono HJ.out hb1
     clear hb1
     have c20:w6.cell? ⟨w.heap.size+1,0,none⟩=some (.int .i64 (p:Int)):=HW6.out.bs.cell 0
     have c21:w6.cell? ⟨w.heap.size+1,1,none⟩=some (.int .i64 way):=HW6.out.bs.cell 1
     have x2p:w6.cell? ⟨w.heap.size,1,none⟩=some (.slice pa1 t.pa.length pc1):=HW6.out.bx.cell 1
     go_wp2_with fail
     refine hKK.out _ _ ?_ (fun hHeld=>?_)
     ·exact ⟨c20,c21⟩
     clear hKK KK
     try simp only [Act.put,List.setIfInBounds_toArray,List.set_cons_zero,List.set_cons_succ]
     refine wpAnyH_ready (rs:=[9]) (by kernel_rfl) (by simp) ?_
     refine AllReadyH.cons (o:={ dst:=some 70,op:=Op.buildSlice 61 1 #[(0,Operand.tmp 69)],type:=61,pos:= "l2_route.go:186",after:=#[{ on:=8,ground:=Ground.data }],guard:=none }) rfl (fun KK hKK=>?_) ?_
     ·have HW6a:Hid (CmS n0 wB w D J (pre) D t (.slice sa1 t.st.length sc1) (.slice pa1 t.pa.length pc1) (.slice la t.li.length lc) (.slice xa t.cr.length xc) (t.st ++ [[(p:Int),way]]) (t.pa) (.slice sa2 (t.st.length+1) sc2) (.slice pa1 t.pa.length pc1) 0 false p way (w6.alloc (.cells #[.int .i64 (p:Int),.int .i64 (partF (v.P p).ln way far ((v.P p).ln)).1,.int .i64 (partF (v.P p).ln way far ((v.P p).ln)).2] 104))):=HW6.out.mono HJ.out (bel1 w6 _)
      have c30:(w6.alloc (.cells #[.int .i64 (p:Int),.int .i64 (partF (v.P p).ln way far ((v.P p).ln)).1,.int .i64 (partF (v.P p).ln way far ((v.P p).ln)).2] 104)).cell? ⟨w.heap.size+1,0,none⟩=some (.int .i64 (p:Int)):=HW6a.out.bs.cell 0
      have c31:(w6.alloc (.cells #[.int .i64 (p:Int),.int .i64 (partF (v.P p).ln way far ((v.P p).ln)).1,.int .i64 (partF (v.P p).ln way far ((v.P p).ln)).2] 104)).cell? ⟨w.heap.size+1,1,none⟩=some (.int .i64 way):=HW6a.out.bs.cell 1
      have x3p:(w6.alloc (.cells #[.int .i64 (p:Int),.int .i64 (partF (v.P p).ln way far ((v.P p).ln)).1,.int .i64 (partF (v.P p).ln way far ((v.P p).ln)).2] 104)).cell? ⟨w.heap.size,1,none⟩=some (.slice pa1 t.pa.length pc1):=HW6a.out.bx.cell 1
      go_simp
      refine hKK.out _ _ ?_ (fun hHeld=>?_)
      ·exact ⟨c30,c31⟩
      clear hKK KK
      try simp only [Act.put,List.setIfInBounds_toArray,List.set_cons_zero,List.set_cons_succ]
      refine wpAnyH_ready (rs:=[10]) (by kernel_rfl) (by simp) ?_
      refine AllReadyH.cons (o:={ dst:=some 71,op:=Op.call { callee:=Callee.builtin Builtin.append,args:=#[Operand.tmp 62,Operand.tmp 70],argTypes:=#[61,61] },type:=61,pos:= "l2_route.go:186",after:=#[{ on:=1,ground:=Ground.data },{ on:=9,ground:=Ground.data },{ on:=8,ground:=Ground.chain }],guard:=none }) rfl (fun KK hKK=>?_) ?_
      ·refine step_app rfl (.tmp 62) (.tmp 70) 61 rfl n0 104 i4 (.agg #[.int .i64 0,.int .i64 0,.int .i64 0]) 3 24 Tryz.underlying61 e41 e42 e43 e44 rfl (by decide) (.slice pa1 t.pa.length pc1) t.pa (by simp [Act.eval]) HW6a.out.tl.q ⟨w6.heap.size,0,none⟩ 1 1 [partR (v.P p).ln p way far ((v.P p).ln)] (by simp [Act.eval]) rfl (by decide) (Wide.one rfl) (news_at (partR (v.P p).ln p way far ((v.P p).ln)) rfl) (by simp [maxLen];omega) (by omega) (Nat.le_trans HW6a.out.nz HW6a.out.fr.size) ?_
       intro v7 w7 ho7 hs7 ha7
       obtain ⟨pa2,pc2,rfl⟩:=ho7.val
       rw [List.length_append] at ho7 ha7
       have HW8:Hid (CmS n0 wB w D J (pre) D t (.slice sa1 t.st.length sc1) (.slice pa1 t.pa.length pc1) (.slice la t.li.length lc) (.slice xa t.cr.length xc) (t.st ++ [[(p:Int),way]]) (t.pa ++ [partR (v.P p).ln p way far ((v.P p).ln)]) (.slice sa2 (t.st.length+1) sc2) (.slice pa2 (t.pa.length+1) pc2) 0 false p way (w7.setCell ⟨w.heap.size,1,none⟩ (.slice pa2 (t.pa.length+1) pc2))):=HW6a.out.parts HJ.out ha7 ho7 hs7
       have hb7:=HW6a.out.bx.grown ha7.fr (fun e=>HW6a.out.tl.q.off HW6a.out.bx (by decide) e rfl)
       have x7p:w7.cell? ⟨w.heap.size,1,none⟩=some (.slice pa1 t.pa.length pc1):=hb7.cell 1
       have g7:=hb7.free 1
       have hs7b:=HW6a.out.bs.grown ha7.fr (fun e=>HW6a.out.tl.q.off HW6a.out.bs (by decide) e rfl)
       have c70:w7.cell? ⟨w.heap.size+1,0,none⟩=some (.int .i64 (p:Int)):=hs7b.cell 0
       have c71:w7.cell? ⟨w.heap.size+1,1,none⟩=some (.int .i64 way):=hs7b.cell 1
       refine hKK.out _ _ ?_ (fun hHeld=>?_)
       ·exact ⟨c70,c71⟩
       clear hKK KK
       try simp only [Act.put,List.setIfInBounds_toArray,List.set_cons_zero,List.set_cons_succ]
       refine wpAnyH_take (i:=11) (oi:={ dst:=some 72,op:=Op.fieldAddr 78 (Operand.tmp 6) 1,type:=0,pos:= "l2_route.go:186",after:=#[{ on:=0,ground:=Ground.phase },{ on:=1,ground:=Ground.phase },{ on:=2,ground:=Ground.phase },{ on:=3,ground:=Ground.phase },{ on:=4,ground:=Ground.phase },{ on:=5,ground:=Ground.phase },{ on:=6,ground:=Ground.phase },{ on:=7,ground:=Ground.phase },{ on:=8,ground:=Ground.phase },{ on:=9,ground:=Ground.phase },{ on:=10,ground:=Ground.phase }],guard:=none }) (v:=.pointer (some ⟨w.heap.size,1,none⟩)) rfl (by kernel_rfl) (by kernel_rfl) (by kernel_rfl) (fun _ _ _ h=>h) (Or.inl ⟨by rfl,?_⟩) (by assumption) ?_
       ·(intro w hSw;(try dsimp only at hSw);go_simp)
       try simp only [Act.put,List.setIfInBounds_toArray,List.set_cons_zero,List.set_cons_succ]
       refine wpAnyH_ready (rs:=[12]) (by kernel_rfl) (by simp) ?_
       refine AllReadyH.cons (o:={ dst:=none,op:=Op.store 61 (Operand.tmp 72) (Operand.tmp 71),type:=0,pos:= "l2_route.go:186",after:=#[{ on:=11,ground:=Ground.data },{ on:=10,ground:=Ground.data },{ on:=10,ground:=Ground.chain },{ on:=0,ground:=Ground.phase },{ on:=1,ground:=Ground.phase },{ on:=2,ground:=Ground.phase },{ on:=3,ground:=Ground.phase },{ on:=4,ground:=Ground.phase },{ on:=5,ground:=Ground.phase },{ on:=6,ground:=Ground.phase },{ on:=7,ground:=Ground.phase },{ on:=8,ground:=Ground.phase },{ on:=9,ground:=Ground.phase },{ on:=10,ground:=Ground.phase }],guard:=none }) rfl (fun KK hKK=>?_) AllReadyH.nil
       go_simp
       refine hKK.out _ _ ?_ (fun hHeld=>?_)
       ·exact ⟨HW8.out.bs.cell 0,HW8.out.bs.cell 1⟩
       clear hKK KK
       try simp only [Act.put,List.setIfInBounds_toArray,List.set_cons_zero,List.set_cons_succ]
       refine wpAnyH_done (by kernel_rfl) ?_ _
       go_wp2_with fail
       go_meet
       case rel=>exact ⟨_,_,HW8⟩
      exact AllReadyH.nil
     exact AllReadyH.nil
    exact AllReadyH.nil
   exact AllReadyH.nil
  refine AllReadyH.cons (o:={ dst:=some 68,op:=Op.call { callee:=Callee.value (Operand.func 97),args:=#[Operand.tmp 66,Operand.tmp 67],argTypes:=#[72,100] },type:=3,pos:= "l2_route.go:186",after:=#[{ on:=5,ground:=Ground.data },{ on:=6,ground:=Ground.data }],guard:=none }) rfl (fun KK hKK=>?_) ?_
  ·go_simp
   refine (long97 OK.out p way _ (HT.out.mono HW4d.out.bel hbt) hp).mono ?_
   rintro e w5 ⟨rfl,hb0⟩
   have HW5:Hid (CmS n0 wB w D J (pre) D t (.slice sa1 t.st.length sc1) (.slice pa1 t.pa.length pc1) (.slice la t.li.length lc) (.slice xa t.cr.length xc) (t.st ++ [[(p:Int),way]]) (t.pa) (.slice sa2 (t.st.length+1) sc2) (.slice pa1 t.pa.length pc1) 0 false p way w5):=HW4d.out.mono HJ.out hb0
   clear hb0
   have c10:w5.cell? ⟨w.heap.size+1,0,none⟩=some (.int .i64 (p:Int)):=HW5.out.bs.cell 0
   have c11:w5.cell? ⟨w.heap.size+1,1,none⟩=some (.int .i64 way):=HW5.out.bs.cell 1
   have x1p:w5.cell? ⟨w.heap.size,1,none⟩=some (.slice pa1 t.pa.length pc1):=HW5.out.bx.cell 1
   go_wp2_with fail
   refine hKK.out _ _ ?_ (fun hHeld=>?_)
   ·exact ⟨c10,c11⟩
   clear hKK KK
   try simp only [Act.put,List.setIfInBounds_toArray,List.set_cons_zero,List.set_cons_succ]
   refine wpAnyH_ready (rs:=[1,8]) (by kernel_rfl) (by simp) ?_
   refine AllReadyH.cons (o:={ dst:=some 62,op:=Op.load 61 (Operand.tmp 61),type:=61,pos:= "l2_route.go:186",after:=#[{ on:=0,ground:=Ground.data }],guard:=none }) rfl (fun KK hKK=>?_) ?_
   ·go_simp
    refine hKK.out _ _ ?_ (fun hHeld=>?_)
    ·exact ⟨c10,c11⟩
    clear hKK KK
    try simp only [Act.put,List.setIfInBounds_toArray,List.set_cons_zero,List.set_cons_succ]
    refine wpAnyH_ready (rs:=[8]) (by kernel_rfl) (by simp) ?_
    refine AllReadyH.cons (o:={ dst:=some 69,op:=Op.call { callee:=Callee.value (Operand.func 96),args:=#[Operand.tmp 63,Operand.tmp 64,Operand.tmp 65,Operand.tmp 68],argTypes:=#[72,100,3,3] },type:=104,pos:= "l2_route.go:186",after:=#[{ on:=2,ground:=Ground.data },{ on:=3,ground:=Ground.data },{ on:=4,ground:=Ground.data },{ on:=7,ground:=Ground.data },{ on:=7,ground:=Ground.chain }],guard:=none }) rfl (fun KK hKK=>?_) ?_
    ·go_simp
     refine (part96 OK.out p way far ((v.P p).ln) _ (HT.out.mono HW5.out.bel hbt) hp hw ⟨hf0,by omega⟩ hen).mono ?_
     rintro e w6 ⟨rfl,hb1⟩
     have HW6:Hid (CmS n0 wB w D J (pre) D t (.slice sa1 t.st.length sc1) (.slice pa1 t.pa.length pc1) (.slice la t.li.length lc) (.slice xa t.cr.length xc) (t.st ++ [[(p:Int),way]]) (t.pa) (.slice sa2 (t.st.length+1) sc2) (.slice pa1 t.pa.length pc1) 0 false p way w6):=HW5.out.mono HJ.out hb1
     clear hb1
     have c20:w6.cell? ⟨w.heap.size+1,0,none⟩=some (.int .i64 (p:Int)):=HW6.out.bs.cell 0
     have c21:w6.cell? ⟨w.heap.size+1,1,none⟩=some (.int .i64 way):=HW6.out.bs.cell 1
     have x2p:w6.cell? ⟨w.heap.size,1,none⟩=some (.slice pa1 t.pa.length pc1):=HW6.out.bx.cell 1
     go_wp2_with fail
     refine hKK.out _ _ ?_ (fun hHeld=>?_)
     ·exact ⟨c20,c21⟩
     clear hKK KK
     try simp only [Act.put,List.setIfInBounds_toArray,List.set_cons_zero,List.set_cons_succ]
     refine wpAnyH_ready (rs:=[9]) (by kernel_rfl) (by simp) ?_
     refine AllReadyH.cons (o:={ dst:=some 70,op:=Op.buildSlice 61 1 #[(0,Operand.tmp 69)],type:=61,pos:= "l2_route.go:186",after:=#[{ on:=8,ground:=Ground.data }],guard:=none }) rfl (fun KK hKK=>?_) ?_
     ·have HW6a:Hid (CmS n0 wB w D J (pre) D t (.slice sa1 t.st.length sc1) (.slice pa1 t.pa.length pc1) (.slice la t.li.length lc) (.slice xa t.cr.length xc) (t.st ++ [[(p:Int),way]]) (t.pa) (.slice sa2 (t.st.length+1) sc2) (.slice pa1 t.pa.length pc1) 0 false p way (w6.alloc (.cells #[.int .i64 (p:Int),.int .i64 (partF (v.P p).ln way far ((v.P p).ln)).1,.int .i64 (partF (v.P p).ln way far ((v.P p).ln)).2] 104))):=HW6.out.mono HJ.out (bel1 w6 _)
      have c30:(w6.alloc (.cells #[.int .i64 (p:Int),.int .i64 (partF (v.P p).ln way far ((v.P p).ln)).1,.int .i64 (partF (v.P p).ln way far ((v.P p).ln)).2] 104)).cell? ⟨w.heap.size+1,0,none⟩=some (.int .i64 (p:Int)):=HW6a.out.bs.cell 0
      have c31:(w6.alloc (.cells #[.int .i64 (p:Int),.int .i64 (partF (v.P p).ln way far ((v.P p).ln)).1,.int .i64 (partF (v.P p).ln way far ((v.P p).ln)).2] 104)).cell? ⟨w.heap.size+1,1,none⟩=some (.int .i64 way):=HW6a.out.bs.cell 1
      have x3p:(w6.alloc (.cells #[.int .i64 (p:Int),.int .i64 (partF (v.P p).ln way far ((v.P p).ln)).1,.int .i64 (partF (v.P p).ln way far ((v.P p).ln)).2] 104)).cell? ⟨w.heap.size,1,none⟩=some (.slice pa1 t.pa.length pc1):=HW6a.out.bx.cell 1
      go_simp
      refine hKK.out _ _ ?_ (fun hHeld=>?_)
      ·exact ⟨c30,c31⟩
      clear hKK KK
      try simp only [Act.put,List.setIfInBounds_toArray,List.set_cons_zero,List.set_cons_succ]
      refine wpAnyH_ready (rs:=[10]) (by kernel_rfl) (by simp) ?_
      refine AllReadyH.cons (o:={ dst:=some 71,op:=Op.call { callee:=Callee.builtin Builtin.append,args:=#[Operand.tmp 62,Operand.tmp 70],argTypes:=#[61,61] },type:=61,pos:= "l2_route.go:186",after:=#[{ on:=1,ground:=Ground.data },{ on:=9,ground:=Ground.data },{ on:=8,ground:=Ground.chain }],guard:=none }) rfl (fun KK hKK=>?_) ?_
      ·refine step_app rfl (.tmp 62) (.tmp 70) 61 rfl n0 104 i4 (.agg #[.int .i64 0,.int .i64 0,.int .i64 0]) 3 24 Tryz.underlying61 e41 e42 e43 e44 rfl (by decide) (.slice pa1 t.pa.length pc1) t.pa (by simp [Act.eval]) HW6a.out.tl.q ⟨w6.heap.size,0,none⟩ 1 1 [partR (v.P p).ln p way far ((v.P p).ln)] (by simp [Act.eval]) rfl (by decide) (Wide.one rfl) (news_at (partR (v.P p).ln p way far ((v.P p).ln)) rfl) (by simp [maxLen];omega) (by omega) (Nat.le_trans HW6a.out.nz HW6a.out.fr.size) ?_
       intro v7 w7 ho7 hs7 ha7
       obtain ⟨pa2,pc2,rfl⟩:=ho7.val
       rw [List.length_append] at ho7 ha7
       have HW8:Hid (CmS n0 wB w D J (pre) D t (.slice sa1 t.st.length sc1) (.slice pa1 t.pa.length pc1) (.slice la t.li.length lc) (.slice xa t.cr.length xc) (t.st ++ [[(p:Int),way]]) (t.pa ++ [partR (v.P p).ln p way far ((v.P p).ln)]) (.slice sa2 (t.st.length+1) sc2) (.slice pa2 (t.pa.length+1) pc2) 0 false p way (w7.setCell ⟨w.heap.size,1,none⟩ (.slice pa2 (t.pa.length+1) pc2))):=HW6a.out.parts HJ.out ha7 ho7 hs7
       have hb7:=HW6a.out.bx.grown ha7.fr (fun e=>HW6a.out.tl.q.off HW6a.out.bx (by decide) e rfl)
       have x7p:w7.cell? ⟨w.heap.size,1,none⟩=some (.slice pa1 t.pa.length pc1):=hb7.cell 1
       have g7:=hb7.free 1
       have hs7b:=HW6a.out.bs.grown ha7.fr (fun e=>HW6a.out.tl.q.off HW6a.out.bs (by decide) e rfl)
       have c70:w7.cell? ⟨w.heap.size+1,0,none⟩=some (.int .i64 (p:Int)):=hs7b.cell 0
       have c71:w7.cell? ⟨w.heap.size+1,1,none⟩=some (.int .i64 way):=hs7b.cell 1
       refine hKK.out _ _ ?_ (fun hHeld=>?_)
       ·exact ⟨c70,c71⟩
       clear hKK KK
       try simp only [Act.put,List.setIfInBounds_toArray,List.set_cons_zero,List.set_cons_succ]
       refine wpAnyH_take (i:=11) (oi:={ dst:=some 72,op:=Op.fieldAddr 78 (Operand.tmp 6) 1,type:=0,pos:= "l2_route.go:186",after:=#[{ on:=0,ground:=Ground.phase },{ on:=1,ground:=Ground.phase },{ on:=2,ground:=Ground.phase },{ on:=3,ground:=Ground.phase },{ on:=4,ground:=Ground.phase },{ on:=5,ground:=Ground.phase },{ on:=6,ground:=Ground.phase },{ on:=7,ground:=Ground.phase },{ on:=8,ground:=Ground.phase },{ on:=9,ground:=Ground.phase },{ on:=10,ground:=Ground.phase }],guard:=none }) (v:=.pointer (some ⟨w.heap.size,1,none⟩)) rfl (by kernel_rfl) (by kernel_rfl) (by kernel_rfl) (fun _ _ _ h=>h) (Or.inl ⟨by rfl,?_⟩) (by assumption) ?_
       ·(intro w hSw;(try dsimp only at hSw);go_simp)
       try simp only [Act.put,List.setIfInBounds_toArray,List.set_cons_zero,List.set_cons_succ]
       refine wpAnyH_ready (rs:=[12]) (by kernel_rfl) (by simp) ?_
       refine AllReadyH.cons (o:={ dst:=none,op:=Op.store 61 (Operand.tmp 72) (Operand.tmp 71),type:=0,pos:= "l2_route.go:186",after:=#[{ on:=11,ground:=Ground.data },{ on:=10,ground:=Ground.data },{ on:=10,ground:=Ground.chain },{ on:=0,ground:=Ground.phase },{ on:=1,ground:=Ground.phase },{ on:=2,ground:=Ground.phase },{ on:=3,ground:=Ground.phase },{ on:=4,ground:=Ground.phase },{ on:=5,ground:=Ground.phase },{ on:=6,ground:=Ground.phase },{ on:=7,ground:=Ground.phase },{ on:=8,ground:=Ground.phase },{ on:=9,ground:=Ground.phase },{ on:=10,ground:=Ground.phase }],guard:=none }) rfl (fun KK hKK=>?_) AllReadyH.nil
       go_simp
       refine hKK.out _ _ ?_ (fun hHeld=>?_)
       ·exact ⟨HW8.out.bs.cell 0,HW8.out.bs.cell 1⟩
       clear hKK KK
       try simp only [Act.put,List.setIfInBounds_toArray,List.set_cons_zero,List.set_cons_succ]
       refine wpAnyH_done (by kernel_rfl) ?_ _
       go_wp2_with fail
       go_meet
       case rel=>exact ⟨_,_,HW8⟩
      exact AllReadyH.nil
     exact AllReadyH.nil
    exact AllReadyH.nil
   refine AllReadyH.cons (o:={ dst:=some 69,op:=Op.call { callee:=Callee.value (Operand.func 96),args:=#[Operand.tmp 63,Operand.tmp 64,Operand.tmp 65,Operand.tmp 68],argTypes:=#[72,100,3,3] },type:=104,pos:= "l2_route.go:186",after:=#[{ on:=2,ground:=Ground.data },{ on:=3,ground:=Ground.data },{ on:=4,ground:=Ground.data },{ on:=7,ground:=Ground.data },{ on:=7,ground:=Ground.chain }],guard:=none }) rfl (fun KK hKK=>?_) ?_
   ·go_simp
    refine (part96 OK.out p way far ((v.P p).ln) _ (HT.out.mono HW5.out.bel hbt) hp hw ⟨hf0,by omega⟩ hen).mono ?_
    rintro e w6 ⟨rfl,hb1⟩
    have HW6:Hid (CmS n0 wB w D J (pre) D t (.slice sa1 t.st.length sc1) (.slice pa1 t.pa.length pc1) (.slice la t.li.length lc) (.slice xa t.cr.length xc) (t.st ++ [[(p:Int),way]]) (t.pa) (.slice sa2 (t.st.length+1) sc2) (.slice pa1 t.pa.length pc1) 0 false p way w6):=HW5.out.mono HJ.out hb1
    clear hb1
    have c20:w6.cell? ⟨w.heap.size+1,0,none⟩=some (.int .i64 (p:Int)):=HW6.out.bs.cell 0
    have c21:w6.cell? ⟨w.heap.size+1,1,none⟩=some (.int .i64 way):=HW6.out.bs.cell 1
    have x2p:w6.cell? ⟨w.heap.size,1,none⟩=some (.slice pa1 t.pa.length pc1):=HW6.out.bx.cell 1
    go_wp2_with fail
    refine hKK.out _ _ ?_ (fun hHeld=>?_)
    ·exact ⟨c20,c21⟩
    clear hKK KK
    try simp only [Act.put,List.setIfInBounds_toArray,List.set_cons_zero,List.set_cons_succ]
    refine wpAnyH_ready (rs:=[1,9]) (by kernel_rfl) (by simp) ?_
    refine AllReadyH.cons (o:={ dst:=some 62,op:=Op.load 61 (Operand.tmp 61),type:=61,pos:= "l2_route.go:186",after:=#[{ on:=0,ground:=Ground.data }],guard:=none }) rfl (fun KK hKK=>?_) ?_
    ·go_simp
     refine hKK.out _ _ ?_ (fun hHeld=>?_)
     ·exact ⟨c20,c21⟩
     clear hKK KK
     try simp only [Act.put,List.setIfInBounds_toArray,List.set_cons_zero,List.set_cons_succ]
     refine wpAnyH_ready (rs:=[9]) (by kernel_rfl) (by simp) ?_
     refine AllReadyH.cons (o:={ dst:=some 70,op:=Op.buildSlice 61 1 #[(0,Operand.tmp 69)],type:=61,pos:= "l2_route.go:186",after:=#[{ on:=8,ground:=Ground.data }],guard:=none }) rfl (fun KK hKK=>?_) ?_
     ·have HW6a:Hid (CmS n0 wB w D J (pre) D t (.slice sa1 t.st.length sc1) (.slice pa1 t.pa.length pc1) (.slice la t.li.length lc) (.slice xa t.cr.length xc) (t.st ++ [[(p:Int),way]]) (t.pa) (.slice sa2 (t.st.length+1) sc2) (.slice pa1 t.pa.length pc1) 0 false p way (w6.alloc (.cells #[.int .i64 (p:Int),.int .i64 (partF (v.P p).ln way far ((v.P p).ln)).1,.int .i64 (partF (v.P p).ln way far ((v.P p).ln)).2] 104))):=HW6.out.mono HJ.out (bel1 w6 _)
      have c30:(w6.alloc (.cells #[.int .i64 (p:Int),.int .i64 (partF (v.P p).ln way far ((v.P p).ln)).1,.int .i64 (partF (v.P p).ln way far ((v.P p).ln)).2] 104)).cell? ⟨w.heap.size+1,0,none⟩=some (.int .i64 (p:Int)):=HW6a.out.bs.cell 0
      have c31:(w6.alloc (.cells #[.int .i64 (p:Int),.int .i64 (partF (v.P p).ln way far ((v.P p).ln)).1,.int .i64 (partF (v.P p).ln way far ((v.P p).ln)).2] 104)).cell? ⟨w.heap.size+1,1,none⟩=some (.int .i64 way):=HW6a.out.bs.cell 1
      have x3p:(w6.alloc (.cells #[.int .i64 (p:Int),.int .i64 (partF (v.P p).ln way far ((v.P p).ln)).1,.int .i64 (partF (v.P p).ln way far ((v.P p).ln)).2] 104)).cell? ⟨w.heap.size,1,none⟩=some (.slice pa1 t.pa.length pc1):=HW6a.out.bx.cell 1
      go_simp
      refine hKK.out _ _ ?_ (fun hHeld=>?_)
      ·exact ⟨c30,c31⟩
      clear hKK KK
      try simp only [Act.put,List.setIfInBounds_toArray,List.set_cons_zero,List.set_cons_succ]
      refine wpAnyH_ready (rs:=[10]) (by kernel_rfl) (by simp) ?_
      refine AllReadyH.cons (o:={ dst:=some 71,op:=Op.call { callee:=Callee.builtin Builtin.append,args:=#[Operand.tmp 62,Operand.tmp 70],argTypes:=#[61,61] },type:=61,pos:= "l2_route.go:186",after:=#[{ on:=1,ground:=Ground.data },{ on:=9,ground:=Ground.data },{ on:=8,ground:=Ground.chain }],guard:=none }) rfl (fun KK hKK=>?_) ?_
      ·refine step_app rfl (.tmp 62) (.tmp 70) 61 rfl n0 104 i4 (.agg #[.int .i64 0,.int .i64 0,.int .i64 0]) 3 24 Tryz.underlying61 e41 e42 e43 e44 rfl (by decide) (.slice pa1 t.pa.length pc1) t.pa (by simp [Act.eval]) HW6a.out.tl.q ⟨w6.heap.size,0,none⟩ 1 1 [partR (v.P p).ln p way far ((v.P p).ln)] (by simp [Act.eval]) rfl (by decide) (Wide.one rfl) (news_at (partR (v.P p).ln p way far ((v.P p).ln)) rfl) (by simp [maxLen];omega) (by omega) (Nat.le_trans HW6a.out.nz HW6a.out.fr.size) ?_
       intro v7 w7 ho7 hs7 ha7
       obtain ⟨pa2,pc2,rfl⟩:=ho7.val
       rw [List.length_append] at ho7 ha7
       have HW8:Hid (CmS n0 wB w D J (pre) D t (.slice sa1 t.st.length sc1) (.slice pa1 t.pa.length pc1) (.slice la t.li.length lc) (.slice xa t.cr.length xc) (t.st ++ [[(p:Int),way]]) (t.pa ++ [partR (v.P p).ln p way far ((v.P p).ln)]) (.slice sa2 (t.st.length+1) sc2) (.slice pa2 (t.pa.length+1) pc2) 0 false p way (w7.setCell ⟨w.heap.size,1,none⟩ (.slice pa2 (t.pa.length+1) pc2))):=HW6a.out.parts HJ.out ha7 ho7 hs7
       have hb7:=HW6a.out.bx.grown ha7.fr (fun e=>HW6a.out.tl.q.off HW6a.out.bx (by decide) e rfl)
       have x7p:w7.cell? ⟨w.heap.size,1,none⟩=some (.slice pa1 t.pa.length pc1):=hb7.cell 1
       have g7:=hb7.free 1
       have hs7b:=HW6a.out.bs.grown ha7.fr (fun e=>HW6a.out.tl.q.off HW6a.out.bs (by decide) e rfl)
       have c70:w7.cell? ⟨w.heap.size+1,0,none⟩=some (.int .i64 (p:Int)):=hs7b.cell 0
       have c71:w7.cell? ⟨w.heap.size+1,1,none⟩=some (.int .i64 way):=hs7b.cell 1
       refine hKK.out _ _ ?_ (fun hHeld=>?_)
       ·exact ⟨c70,c71⟩
       clear hKK KK
       try simp only [Act.put,List.setIfInBounds_toArray,List.set_cons_zero,List.set_cons_succ]
       refine wpAnyH_take (i:=11) (oi:={ dst:=some 72,op:=Op.fieldAddr 78 (Operand.tmp 6) 1,type:=0,pos:= "l2_route.go:186",after:=#[{ on:=0,ground:=Ground.phase },{ on:=1,ground:=Ground.phase },{ on:=2,ground:=Ground.phase },{ on:=3,ground:=Ground.phase },{ on:=4,ground:=Ground.phase },{ on:=5,ground:=Ground.phase },{ on:=6,ground:=Ground.phase },{ on:=7,ground:=Ground.phase },{ on:=8,ground:=Ground.phase },{ on:=9,ground:=Ground.phase },{ on:=10,ground:=Ground.phase }],guard:=none }) (v:=.pointer (some ⟨w.heap.size,1,none⟩)) rfl (by kernel_rfl) (by kernel_rfl) (by kernel_rfl) (fun _ _ _ h=>h) (Or.inl ⟨by rfl,?_⟩) (by assumption) ?_
       ·(intro w hSw;(try dsimp only at hSw);go_simp)
       try simp only [Act.put,List.setIfInBounds_toArray,List.set_cons_zero,List.set_cons_succ]
       refine wpAnyH_ready (rs:=[12]) (by kernel_rfl) (by simp) ?_
       refine AllReadyH.cons (o:={ dst:=none,op:=Op.store 61 (Operand.tmp 72) (Operand.tmp 71),type:=0,pos:= "l2_route.go:186",after:=#[{ on:=11,ground:=Ground.data },{ on:=10,ground:=Ground.data },{ on:=10,ground:=Ground.chain },{ on:=0,ground:=Ground.phase },{ on:=1,ground:=Ground.phase },{ on:=2,ground:=Ground.phase },{ on:=3,ground:=Ground.phase },{ on:=4,ground:=Ground.phase },{ on:=5,ground:=Ground.phase },{ on:=6,ground:=Ground.phase },{ on:=7,ground:=Ground.phase },{ on:=8,ground:=Ground.phase },{ on:=9,ground:=Ground.phase },{ on:=10,ground:=Ground.phase }],guard:=none }) rfl (fun KK hKK=>?_) AllReadyH.nil
       go_simp
       refine hKK.out _ _ ?_ (fun hHeld=>?_)
       ·exact ⟨HW8.out.bs.cell 0,HW8.out.bs.cell 1⟩
       clear hKK KK
       try simp only [Act.put,List.setIfInBounds_toArray,List.set_cons_zero,List.set_cons_succ]
       refine wpAnyH_done (by kernel_rfl) ?_ _
       go_wp2_with fail
       go_meet
       case rel=>exact ⟨_,_,HW8⟩
      exact AllReadyH.nil
     exact AllReadyH.nil
    refine AllReadyH.cons (o:={ dst:=some 70,op:=Op.buildSlice 61 1 #[(0,Operand.tmp 69)],type:=61,pos:= "l2_route.go:186",after:=#[{ on:=8,ground:=Ground.data }],guard:=none }) rfl (fun KK hKK=>?_) ?_
    ·have HW6a:Hid (CmS n0 wB w D J (pre) D t (.slice sa1 t.st.length sc1) (.slice pa1 t.pa.length pc1) (.slice la t.li.length lc) (.slice xa t.cr.length xc) (t.st ++ [[(p:Int),way]]) (t.pa) (.slice sa2 (t.st.length+1) sc2) (.slice pa1 t.pa.length pc1) 0 false p way (w6.alloc (.cells #[.int .i64 (p:Int),.int .i64 (partF (v.P p).ln way far ((v.P p).ln)).1,.int .i64 (partF (v.P p).ln way far ((v.P p).ln)).2] 104))):=HW6.out.mono HJ.out (bel1 w6 _)
     have c30:(w6.alloc (.cells #[.int .i64 (p:Int),.int .i64 (partF (v.P p).ln way far ((v.P p).ln)).1,.int .i64 (partF (v.P p).ln way far ((v.P p).ln)).2] 104)).cell? ⟨w.heap.size+1,0,none⟩=some (.int .i64 (p:Int)):=HW6a.out.bs.cell 0
     have c31:(w6.alloc (.cells #[.int .i64 (p:Int),.int .i64 (partF (v.P p).ln way far ((v.P p).ln)).1,.int .i64 (partF (v.P p).ln way far ((v.P p).ln)).2] 104)).cell? ⟨w.heap.size+1,1,none⟩=some (.int .i64 way):=HW6a.out.bs.cell 1
     have x3p:(w6.alloc (.cells #[.int .i64 (p:Int),.int .i64 (partF (v.P p).ln way far ((v.P p).ln)).1,.int .i64 (partF (v.P p).ln way far ((v.P p).ln)).2] 104)).cell? ⟨w.heap.size,1,none⟩=some (.slice pa1 t.pa.length pc1):=HW6a.out.bx.cell 1
     go_simp
     refine hKK.out _ _ ?_ (fun hHeld=>?_)
     ·exact ⟨c30,c31⟩
     clear hKK KK
     try simp only [Act.put,List.setIfInBounds_toArray,List.set_cons_zero,List.set_cons_succ]
     refine wpAnyH_ready (rs:=[1]) (by kernel_rfl) (by simp) ?_
     refine AllReadyH.cons (o:={ dst:=some 62,op:=Op.load 61 (Operand.tmp 61),type:=61,pos:= "l2_route.go:186",after:=#[{ on:=0,ground:=Ground.data }],guard:=none }) rfl (fun KK hKK=>?_) ?_
     ·go_simp
      refine hKK.out _ _ ?_ (fun hHeld=>?_)
      ·exact ⟨c30,c31⟩
      clear hKK KK
      try simp only [Act.put,List.setIfInBounds_toArray,List.set_cons_zero,List.set_cons_succ]
      refine wpAnyH_ready (rs:=[10]) (by kernel_rfl) (by simp) ?_
      refine AllReadyH.cons (o:={ dst:=some 71,op:=Op.call { callee:=Callee.builtin Builtin.append,args:=#[Operand.tmp 62,Operand.tmp 70],argTypes:=#[61,61] },type:=61,pos:= "l2_route.go:186",after:=#[{ on:=1,ground:=Ground.data },{ on:=9,ground:=Ground.data },{ on:=8,ground:=Ground.chain }],guard:=none }) rfl (fun KK hKK=>?_) ?_
      ·refine step_app rfl (.tmp 62) (.tmp 70) 61 rfl n0 104 i4 (.agg #[.int .i64 0,.int .i64 0,.int .i64 0]) 3 24 Tryz.underlying61 e41 e42 e43 e44 rfl (by decide) (.slice pa1 t.pa.length pc1) t.pa (by simp [Act.eval]) HW6a.out.tl.q ⟨w6.heap.size,0,none⟩ 1 1 [partR (v.P p).ln p way far ((v.P p).ln)] (by simp [Act.eval]) rfl (by decide) (Wide.one rfl) (news_at (partR (v.P p).ln p way far ((v.P p).ln)) rfl) (by simp [maxLen];omega) (by omega) (Nat.le_trans HW6a.out.nz HW6a.out.fr.size) ?_
       intro v7 w7 ho7 hs7 ha7
       obtain ⟨pa2,pc2,rfl⟩:=ho7.val
       rw [List.length_append] at ho7 ha7
       have HW8:Hid (CmS n0 wB w D J (pre) D t (.slice sa1 t.st.length sc1) (.slice pa1 t.pa.length pc1) (.slice la t.li.length lc) (.slice xa t.cr.length xc) (t.st ++ [[(p:Int),way]]) (t.pa ++ [partR (v.P p).ln p way far ((v.P p).ln)]) (.slice sa2 (t.st.length+1) sc2) (.slice pa2 (t.pa.length+1) pc2) 0 false p way (w7.setCell ⟨w.heap.size,1,none⟩ (.slice pa2 (t.pa.length+1) pc2))):=HW6a.out.parts HJ.out ha7 ho7 hs7
       have hb7:=HW6a.out.bx.grown ha7.fr (fun e=>HW6a.out.tl.q.off HW6a.out.bx (by decide) e rfl)
       have x7p:w7.cell? ⟨w.heap.size,1,none⟩=some (.slice pa1 t.pa.length pc1):=hb7.cell 1
       have g7:=hb7.free 1
       have hs7b:=HW6a.out.bs.grown ha7.fr (fun e=>HW6a.out.tl.q.off HW6a.out.bs (by decide) e rfl)
       have c70:w7.cell? ⟨w.heap.size+1,0,none⟩=some (.int .i64 (p:Int)):=hs7b.cell 0
       have c71:w7.cell? ⟨w.heap.size+1,1,none⟩=some (.int .i64 way):=hs7b.cell 1
       refine hKK.out _ _ ?_ (fun hHeld=>?_)
       ·exact ⟨c70,c71⟩
       clear hKK KK
       try simp only [Act.put,List.setIfInBounds_toArray,List.set_cons_zero,List.set_cons_succ]
       refine wpAnyH_take (i:=11) (oi:={ dst:=some 72,op:=Op.fieldAddr 78 (Operand.tmp 6) 1,type:=0,pos:= "l2_route.go:186",after:=#[{ on:=0,ground:=Ground.phase },{ on:=1,ground:=Ground.phase },{ on:=2,ground:=Ground.phase },{ on:=3,ground:=Ground.phase },{ on:=4,ground:=Ground.phase },{ on:=5,ground:=Ground.phase },{ on:=6,ground:=Ground.phase },{ on:=7,ground:=Ground.phase },{ on:=8,ground:=Ground.phase },{ on:=9,ground:=Ground.phase },{ on:=10,ground:=Ground.phase }],guard:=none }) (v:=.pointer (some ⟨w.heap.size,1,none⟩)) rfl (by kernel_rfl) (by kernel_rfl) (by kernel_rfl) (fun _ _ _ h=>h) (Or.inl ⟨by rfl,?_⟩) (by assumption) ?_
       ·(intro w hSw;(try dsimp only at hSw);go_simp)
       try simp only [Act.put,List.setIfInBounds_toArray,List.set_cons_zero,List.set_cons_succ]
       refine wpAnyH_ready (rs:=[12]) (by kernel_rfl) (by simp) ?_
       refine AllReadyH.cons (o:={ dst:=none,op:=Op.store 61 (Operand.tmp 72) (Operand.tmp 71),type:=0,pos:= "l2_route.go:186",after:=#[{ on:=11,ground:=Ground.data },{ on:=10,ground:=Ground.data },{ on:=10,ground:=Ground.chain },{ on:=0,ground:=Ground.phase },{ on:=1,ground:=Ground.phase },{ on:=2,ground:=Ground.phase },{ on:=3,ground:=Ground.phase },{ on:=4,ground:=Ground.phase },{ on:=5,ground:=Ground.phase },{ on:=6,ground:=Ground.phase },{ on:=7,ground:=Ground.phase },{ on:=8,ground:=Ground.phase },{ on:=9,ground:=Ground.phase },{ on:=10,ground:=Ground.phase }],guard:=none }) rfl (fun KK hKK=>?_) AllReadyH.nil
       go_simp
       refine hKK.out _ _ ?_ (fun hHeld=>?_)
       ·exact ⟨HW8.out.bs.cell 0,HW8.out.bs.cell 1⟩
       clear hKK KK
       try simp only [Act.put,List.setIfInBounds_toArray,List.set_cons_zero,List.set_cons_succ]
       refine wpAnyH_done (by kernel_rfl) ?_ _
       go_wp2_with fail
       go_meet
       case rel=>exact ⟨_,_,HW8⟩
      exact AllReadyH.nil
     exact AllReadyH.nil
    exact AllReadyH.nil
   exact AllReadyH.nil
  exact AllReadyH.nil
 case rest=>
  obtain ⟨pa2,pc2,HC⟩:=hcut
  have y0:wc.cell? ⟨w.heap.size+1,0,none⟩=some (.int .i64 (p:Int)):=HC.out.bs.cell 0
  have y1:wc.cell? ⟨w.heap.size+1,1,none⟩=some (.int .i64 way):=HC.out.bs.cell 1
  have z1:=HC.out.bx.lt
  have z2:=HC.out.bs.lt
  go_wp2_with fail
  refine (ahead98 OK.out p way _ (HT.out.mono HC.out.bel hbt) hp hw).mono ?_
  rintro e w5 ⟨rfl,hb5⟩
  obtain ⟨j,q,hjq,hjm,hqn,_⟩:=OK.out.stand (headE p way) (headE_ok p way).1 (by rw [(headE_ok p way).2.1];omega) (headE_ok p way).2.2
  have hat:v.at (headE p way)=(j,q):=by unfold Ev.at;rw [hjq];rfl
  rw [hat]
  have HAT:Hid (v.at (headE p way)=(j,q)):=hat
  have HC5:Hid (CmS n0 wB w D J (pre) D t (.slice sa1 t.st.length sc1) (.slice pa1 t.pa.length pc1) (.slice la t.li.length lc) (.slice xa t.cr.length xc) (t.st ++ [[(p:Int),way]]) (t.pa ++ [partR (v.P p).ln p way far (v.P p).ln]) (.slice sa2 (t.st.length+1) sc2) (.slice pa2 (t.pa.length+1) pc2) 0 false p way (w5.alloc (.cells #[.int .i64 (j:Int),.int .i64 (q:Int)] 128))):=(HC.out.mono HJ.out hb5).mono HJ.out (bel1 w5 _)
  have HX5:Hid (Box (w5.alloc (.cells #[.int .i64 (j:Int),.int .i64 (q:Int)] 128)) w5.heap.size 128 #[.int .i64 (j:Int),.int .i64 (q:Int)]):=Box.new w5 128 _
  have hz5:Hid (w.heap.size+2≤w5.heap.size):=by have h1:=(HC.out.mono HJ.out hb5).bs.lt;show _≤_;omega
  have HSB:Hid (∀ g,((.slice sa2 (t.st.length+1) sc2:Value).ownBlock=some g∨(.slice pa2 (t.pa.length+1) pc2:Value).ownBlock=some g)→g<w5.heap.size):=fun g hg=>hg.elim (fun e=>((HC.out.mono HJ.out hb5).s1.lt e).2) (fun e=>((HC.out.mono HJ.out hb5).p1.lt e).2)
  clear hjq hat hb5 y0 y1 z1 z2 HC
  go_wp2_with fail
  generalize (w5.alloc (.cells #[.int .i64 (j:Int),.int .i64 (q:Int)] 128))=w6 at HC5 HX5 ⊢
  generalize w5.heap.size=b5 at HX5 hz5 HSB ⊢
  have hb5l:b5<w6.heap.size:=HX5.out.lt
  go_cut [14] from 19 (fun sx wx=>∃ xa' xc',sx=.slice xa' (exF (v.J j).kd q).length xc'∧NsAt 1 w6.heap.size wx xa' (exF (v.J j).kd q).length (fun i _=>(((exF (v.J j).kd q).getD i 0:Nat):Int))∧Hid (CmS n0 wB w D J (pre) D t (.slice sa1 t.st.length sc1) (.slice pa1 t.pa.length pc1) (.slice la t.li.length lc) (.slice xa t.cr.length xc) (t.st ++ [[(p:Int),way]]) (t.pa ++ [partR (v.P p).ln p way far (v.P p).ln]) (.slice sa2 (t.st.length+1) sc2) (.slice pa2 (t.pa.length+1) pc2) 0 false p way wx∧Box wx b5 128 #[.int .i64 (j:Int),.int .i64 (q:Int)]∧w6.heap.size≤wx.heap.size))
  case first=>
   have HD6:Hid (CmS n0 wB w D J (pre) D t (.slice sa1 t.st.length sc1) (.slice pa1 t.pa.length pc1) (.slice la t.li.length lc) (.slice xa t.cr.length xc) (t.st ++ [[(p:Int),way]]) (t.pa ++ [partR (v.P p).ln p way far (v.P p).ln]) (.slice sa2 (t.st.length+1) sc2) (.slice pa2 (t.pa.length+1) pc2) 0 false p way w6.drew):=HC5.out.mono HJ.out (Below.refl _ _).drew
   have k0:w6.drew.cell? ⟨b5,0,none⟩=some (.int .i64 (j:Int)):=HX5.out.cell 0
   have k1:w6.drew.cell? ⟨b5,1,none⟩=some (.int .i64 (q:Int)):=HX5.out.cell 1
   have hkd:=OK.out.kd j hjm
   rcases (show (v.J j).kd=1∨(v.J j).kd=2∨(v.J j).kd=3∨(v.J j).kd=4 by omega) with hk | hk | hk | hk
   ·have hm:=meth1
    have HKD:Hid (kindV (v.J j).kd=.iface 195 (.agg #[])):=by show kindV (v.J j).kd=_;rw [hk];rfl
    go_region_held3 (fun w'=>w'.cell? ⟨b5,0,none⟩=some (.int .i64 (j:Int))∧w'.cell? ⟨b5,1,none⟩=some (.int .i64 (q:Int))) (go_keep) (first
     | (go_at_call 99;refine (kind99 OK.out j _ (HT.out.mono HD6.out.bel hbt) hjm).mono ?_;rintro e w7 ⟨rfl,rfl⟩;rw [HKD.out])
     | (go_at_call 147;refine (overBuffer q _).mono ?_;rintro e w8 ⟨rfl,hb8⟩;have m0:w8.cell? ⟨b5,0,none⟩=some (.int .i64 (j:Int)):=(hb8.cell (p:=⟨b5,0,none⟩) hb5l).trans k0;have m1:w8.cell? ⟨b5,1,none⟩=some (.int .i64 (q:Int)):=(hb8.cell (p:=⟨b5,1,none⟩) hb5l).trans k1))
    all_goals
     go_wp2_with fail
     go_meet
     case rel=>exact ⟨none,0,by rw [hk];rfl,by intro h;rw [hk] at h;simp [exF] at h,HD6.out.mono HJ.out hb8,HX5.out.drew.mono hb8 lr,hb8.size⟩
   ·have hm:=meth2
    have HKD:Hid (kindV (v.J j).kd=.iface 198 (.agg #[])):=by show kindV (v.J j).kd=_;rw [hk];rfl
    go_region_held3 (fun w'=>w'.cell? ⟨b5,0,none⟩=some (.int .i64 (j:Int))∧w'.cell? ⟨b5,1,none⟩=some (.int .i64 (q:Int))) (go_keep) (first
     | (go_at_call 99;refine (kind99 OK.out j _ (HT.out.mono HD6.out.bel hbt) hjm).mono ?_;rintro e w7 ⟨rfl,rfl⟩;rw [HKD.out])
     | (go_at_call 149;refine (overPlain q _ (by omega)).mono ?_;rintro e w8 ⟨xa',xc',rfl,hns8,hb8⟩;have m0:w8.cell? ⟨b5,0,none⟩=some (.int .i64 (j:Int)):=(hb8.cell (p:=⟨b5,0,none⟩) hb5l).trans k0;have m1:w8.cell? ⟨b5,1,none⟩=some (.int .i64 (q:Int)):=(hb8.cell (p:=⟨b5,1,none⟩) hb5l).trans k1))
    all_goals
     go_wp2_with fail
     go_meet
     case rel=>exact ⟨xa',xc',by rw [hk];rfl,by rw [hk];exact hns8,HD6.out.mono HJ.out hb8,HX5.out.drew.mono hb8 lr,hb8.size⟩
   ·have hm:=meth3
    have HKD:Hid (kindV (v.J j).kd=.iface 194 (.agg #[])):=by show kindV (v.J j).kd=_;rw [hk];rfl
    go_region_held3 (fun w'=>w'.cell? ⟨b5,0,none⟩=some (.int .i64 (j:Int))∧w'.cell? ⟨b5,1,none⟩=some (.int .i64 (q:Int))) (go_keep) (first
     | (go_at_call 99;refine (kind99 OK.out j _ (HT.out.mono HD6.out.bel hbt) hjm).mono ?_;rintro e w7 ⟨rfl,rfl⟩;rw [HKD.out])
     | (go_at_call 145;refine (overSwitch q _ (by omega)).mono ?_;rintro e w8 ⟨xa',xc',rfl,hns8,hb8⟩;have m0:w8.cell? ⟨b5,0,none⟩=some (.int .i64 (j:Int)):=(hb8.cell (p:=⟨b5,0,none⟩) hb5l).trans k0;have m1:w8.cell? ⟨b5,1,none⟩=some (.int .i64 (q:Int)):=(hb8.cell (p:=⟨b5,1,none⟩) hb5l).trans k1))
    all_goals
     go_wp2_with fail
     go_meet
     case rel=>exact ⟨xa',xc',by rw [hk];rfl,by rw [hk];exact hns8,HD6.out.mono HJ.out hb8,HX5.out.drew.mono hb8 lr,hb8.size⟩
   ·have hm:=meth4
    have HKD:Hid (kindV (v.J j).kd=.iface 193 (.agg #[])):=by show kindV (v.J j).kd=_;rw [hk];rfl
    go_region_held3 (fun w'=>w'.cell? ⟨b5,0,none⟩=some (.int .i64 (j:Int))∧w'.cell? ⟨b5,1,none⟩=some (.int .i64 (q:Int))) (go_keep) (first
     | (go_at_call 99;refine (kind99 OK.out j _ (HT.out.mono HD6.out.bel hbt) hjm).mono ?_;rintro e w7 ⟨rfl,rfl⟩;rw [HKD.out])
     | (go_at_call 143;refine (overCross q _ (by omega)).mono ?_;rintro e w8 ⟨xa',xc',rfl,hns8,hb8⟩;have m0:w8.cell? ⟨b5,0,none⟩=some (.int .i64 (j:Int)):=(hb8.cell (p:=⟨b5,0,none⟩) hb5l).trans k0;have m1:w8.cell? ⟨b5,1,none⟩=some (.int .i64 (q:Int)):=(hb8.cell (p:=⟨b5,1,none⟩) hb5l).trans k1))
    all_goals
     go_wp2_with fail
     go_meet
     case rel=>exact ⟨xa',xc',by rw [hk];rfl,by rw [hk];exact hns8,HD6.out.mono HJ.out hb8,HX5.out.drew.mono hb8 lr,hb8.size⟩
  case rest=>
   obtain ⟨xa',xc',rfl,hns,HZ⟩:=hcut
   have HC:Hid (CmS n0 wB w D J (pre) D t (.slice sa1 t.st.length sc1) (.slice pa1 t.pa.length pc1) (.slice la t.li.length lc) (.slice xa t.cr.length xc) (t.st ++ [[(p:Int),way]]) (t.pa ++ [partR (v.P p).ln p way far (v.P p).ln]) (.slice sa2 (t.st.length+1) sc2) (.slice pa2 (t.pa.length+1) pc2) 0 false p way wc):=HZ.out.1
   by_cases hin:[(p:Int),way] ∈ t.st
   ·have hdec:decide ([(p:Int),way] ∈ t.st)=true:=by simpa using hin
    have HWK:Hid (v.walk fr (f+1) t p way far=[none]):=walk_again HNX.out hin
    clear hns HZ hin HAT HC5 HX5
    have HC2:Hid (CmS n0 wB w D J (pre) D t (.slice sa1 t.st.length sc1) (.slice pa1 t.pa.length pc1) (.slice la t.li.length lc) (.slice xa t.cr.length xc) (t.st ++ [[(p:Int),way]]) (t.pa ++ [partR (v.P p).ln p way far (v.P p).ln]) (.slice sa2 (t.st.length+1) sc2) (.slice pa2 (t.pa.length+1) pc2) (-1) false p way ((wc.setCell ⟨w.heap.size,4,none⟩ (.int .i64 (-1))).setCell ⟨w.heap.size,5,none⟩ (.bool false))):=(HC.out.put HJ.out 4 (.int .i64 (-1)) (tt':=-1) (dn':=false) rfl).put HJ.out 5 (.bool false) rfl
    have q4:wc.cell? ⟨w.heap.size,4,none⟩=some (.int .i64 0):=HC.out.bx.cell 4
    have q5:wc.cell? ⟨w.heap.size,5,none⟩=some (.bool false):=HC.out.bx.cell 5
    have g4:=HC.out.bx.free 4
    have g5:=HC.out.bx.free 5
    go_upto_region 13 with fail
    clear q4 q5 g4 g5 HC
    generalize ((wc.setCell ⟨w.heap.size,4,none⟩ (.int .i64 (-1))).setCell ⟨w.heap.size,5,none⟩ (.bool false))=w9 at HC2 ⊢
    obtain ⟨fn,tmps,assign,body,hy,hR⟩:=HY.out 2 pre w9 D { t with st:=t.st ++ [[(p:Int),way]],pa:=t.pa ++ [partR (v.P p).ln p way far (v.P p).ln] } (-1) false (none) _ _ _ _ HC2.out.j HC2.out.bel HC2.out.now HC2.out.free (.inr ⟨rfl,rfl⟩)
    have r0:w9.cell? ⟨w.heap.size,0,none⟩=some (.slice sa2 (t.st.length+1) sc2):=HC2.out.bx.cell 0
    have r1:w9.cell? ⟨w.heap.size,1,none⟩=some (.slice pa2 (t.pa.length+1) pc2):=HC2.out.bx.cell 1
    have r2:w9.cell? ⟨w.heap.size,2,none⟩=some (.slice la t.li.length lc):=HC2.out.bx.cell 2
    have r3:w9.cell? ⟨w.heap.size,3,none⟩=some (.slice xa t.cr.length xc):=HC2.out.bx.cell 3
    have r4:w9.cell? ⟨w.heap.size,4,none⟩=some (.int .i64 (-1)):=HC2.out.bx.cell 4
    have r5:w9.cell? ⟨w.heap.size,5,none⟩=some (.bool false):=HC2.out.bx.cell 5
    have HR:Hid (RoundIn Fence.wide 2 Tryz.prog l fn tmps assign body w9 (YPost J Jx pre (none) w9 D)):=hR
    clear hR
    refine (wpIn_wide (n:=3)).1 ?_
    gi_wp2
    refine HR.out.mono ?_
    clear HR hy r0 r1 r2 r3 r4 r5
    rintro e w10 ⟨D',hfr,hD,⟨rfl,hj⟩ | ⟨rfl,hj⟩⟩
    ·have H10:Hid (CmS n0 wB w D J (pre ++ [none]) D' t (.slice sa1 t.st.length sc1) (.slice pa1 t.pa.length pc1) (.slice la t.li.length lc) (.slice xa t.cr.length xc) (t.st ++ [[(p:Int),way]]) (t.pa ++ [partR (v.P p).ln p way far (v.P p).ln]) (.slice sa2 (t.st.length+1) sc2) (.slice pa2 (t.pa.length+1) pc2) (-1) false p way w10):=HC2.out.round HJ.out hfr hD hj
     clear hfr hD hj
     gi_wp2
     go_wp2_with fail
     go_ret
     exact ⟨D',H10.out.hd,H10.out.fr,H10.out.tl,.inl ⟨rfl,by rw [HWK.out];exact H10.out.j⟩⟩
    ·have H10:Hid (CmS n0 wB w D Jx (pre ++ [none]) D' t (.slice sa1 t.st.length sc1) (.slice pa1 t.pa.length pc1) (.slice la t.li.length lc) (.slice xa t.cr.length xc) (t.st ++ [[(p:Int),way]]) (t.pa ++ [partR (v.P p).ln p way far (v.P p).ln]) (.slice sa2 (t.st.length+1) sc2) (.slice pa2 (t.pa.length+1) pc2) (-1) false p way w10):=HC2.out.round HJ.out hfr hD hj
     clear hfr hD hj
     gi_wp2
     go_wp2_with fail
     go_ret
     exact ⟨D',H10.out.hd,H10.out.fr,H10.out.tl,.inr ⟨rfl,_,by rw [HWK.out];exact List.prefix_refl _,H10.out.j⟩⟩
   ·have hdec:decide ([(p:Int),way] ∈ t.st)=false:=by simpa using hin
    by_cases hk1:(v.J j).kd=1
    ·have HWK:Hid (v.walk fr (f+1) t p way far=[some (v.fin fr (-1) { t with st:=t.st ++ [[(p:Int),way]],pa:=t.pa ++ [partR (v.P p).ln p way far (v.P p).ln] } (ovOf v (-1)))]):=walk_buf HNX.out hin HAT.out hk1
     have hl0:exF (v.J j).kd q=[]:=by rw [hk1];rfl
     rw [hl0]
     clear hns HZ hin HAT HC5 HX5 hl0 hk1
     have HC2:Hid (CmS n0 wB w D J (pre) D t (.slice sa1 t.st.length sc1) (.slice pa1 t.pa.length pc1) (.slice la t.li.length lc) (.slice xa t.cr.length xc) (t.st ++ [[(p:Int),way]]) (t.pa ++ [partR (v.P p).ln p way far (v.P p).ln]) (.slice sa2 (t.st.length+1) sc2) (.slice pa2 (t.pa.length+1) pc2) (-1) true p way ((wc.setCell ⟨w.heap.size,4,none⟩ (.int .i64 (-1))).setCell ⟨w.heap.size,5,none⟩ (.bool true))):=(HC.out.put HJ.out 4 (.int .i64 (-1)) (tt':=-1) (dn':=false) rfl).put HJ.out 5 (.bool true) rfl
     have q4:wc.cell? ⟨w.heap.size,4,none⟩=some (.int .i64 0):=HC.out.bx.cell 4
     have q5:wc.cell? ⟨w.heap.size,5,none⟩=some (.bool false):=HC.out.bx.cell 5
     have g4:=HC.out.bx.free 4
     have g5:=HC.out.bx.free 5
     go_upto_region 13 with fail
     clear q4 q5 g4 g5 HC
     generalize ((wc.setCell ⟨w.heap.size,4,none⟩ (.int .i64 (-1))).setCell ⟨w.heap.size,5,none⟩ (.bool true))=w9 at HC2 ⊢
     obtain ⟨fn,tmps,assign,body,hy,hR⟩:=HY.out 2 pre w9 D { t with st:=t.st ++ [[(p:Int),way]],pa:=t.pa ++ [partR (v.P p).ln p way far (v.P p).ln] } (-1) true (some (v.fin fr (-1) { t with st:=t.st ++ [[(p:Int),way]],pa:=t.pa ++ [partR (v.P p).ln p way far (v.P p).ln] } (ovOf v (-1)))) _ _ _ _ HC2.out.j HC2.out.bel HC2.out.now HC2.out.free (.inl ⟨rfl,rfl,by simp;omega,by simp;omega,by simp;omega,by simp;omega,HOK.out.1.li,HOK.out.2,.inl rfl⟩)
     have r0:w9.cell? ⟨w.heap.size,0,none⟩=some (.slice sa2 (t.st.length+1) sc2):=HC2.out.bx.cell 0
     have r1:w9.cell? ⟨w.heap.size,1,none⟩=some (.slice pa2 (t.pa.length+1) pc2):=HC2.out.bx.cell 1
     have r2:w9.cell? ⟨w.heap.size,2,none⟩=some (.slice la t.li.length lc):=HC2.out.bx.cell 2
     have r3:w9.cell? ⟨w.heap.size,3,none⟩=some (.slice xa t.cr.length xc):=HC2.out.bx.cell 3
     have r4:w9.cell? ⟨w.heap.size,4,none⟩=some (.int .i64 (-1)):=HC2.out.bx.cell 4
     have r5:w9.cell? ⟨w.heap.size,5,none⟩=some (.bool true):=HC2.out.bx.cell 5
     have HR:Hid (RoundIn Fence.wide 2 Tryz.prog l fn tmps assign body w9 (YPost J Jx pre (some (v.fin fr (-1) { t with st:=t.st ++ [[(p:Int),way]],pa:=t.pa ++ [partR (v.P p).ln p way far (v.P p).ln] } (ovOf v (-1)))) w9 D)):=hR
     clear hR
     refine (wpIn_wide (n:=3)).1 ?_
     gi_wp2
     refine HR.out.mono ?_
     clear HR hy r0 r1 r2 r3 r4 r5
     rintro e w10 ⟨D',hfr,hD,⟨rfl,hj⟩ | ⟨rfl,hj⟩⟩
     ·have H10:Hid (CmS n0 wB w D J (pre ++ [some (v.fin fr (-1) { t with st:=t.st ++ [[(p:Int),way]],pa:=t.pa ++ [partR (v.P p).ln p way far (v.P p).ln] } (ovOf v (-1)))]) D' t (.slice sa1 t.st.length sc1) (.slice pa1 t.pa.length pc1) (.slice la t.li.length lc) (.slice xa t.cr.length xc) (t.st ++ [[(p:Int),way]]) (t.pa ++ [partR (v.P p).ln p way far (v.P p).ln]) (.slice sa2 (t.st.length+1) sc2) (.slice pa2 (t.pa.length+1) pc2) (-1) true p way w10):=HC2.out.round HJ.out hfr hD hj
      clear hfr hD hj
      gi_wp2
      go_wp2_with fail
      go_ret
      exact ⟨D',H10.out.hd,H10.out.fr,H10.out.tl,.inl ⟨rfl,by rw [HWK.out];exact H10.out.j⟩⟩
     ·have H10:Hid (CmS n0 wB w D Jx (pre ++ [some (v.fin fr (-1) { t with st:=t.st ++ [[(p:Int),way]],pa:=t.pa ++ [partR (v.P p).ln p way far (v.P p).ln] } (ovOf v (-1)))]) D' t (.slice sa1 t.st.length sc1) (.slice pa1 t.pa.length pc1) (.slice la t.li.length lc) (.slice xa t.cr.length xc) (t.st ++ [[(p:Int),way]]) (t.pa ++ [partR (v.P p).ln p way far (v.P p).ln]) (.slice sa2 (t.st.length+1) sc2) (.slice pa2 (t.pa.length+1) pc2) (-1) true p way w10):=HC2.out.round HJ.out hfr hD hj
      clear hfr hD hj
      gi_wp2
      go_wp2_with fail
      go_ret
      exact ⟨D',H10.out.hd,H10.out.fr,H10.out.tl,.inr ⟨rfl,_,by rw [HWK.out];exact List.prefix_refl _,H10.out.j⟩⟩
    ·have hxx:exF (v.J j).kd q=acrossF (v.J j).kd.toNat q:=by unfold exF;rw [if_neg hk1]
     have hkd:=OK.out.kd j hjm
     have hxl:0<(exF (v.J j).kd q).length∧(exF (v.J j).kd q).length≤2∧∀ x,x ∈ exF (v.J j).kd q→x<(v.J j).ne:=by rw [hxx];exact across_ok hk1 hkd hqn
     have hz0:(((exF (v.J j).kd q).length:Int) == 0)=false:=by rw [beq_eq_false_iff_ne];omega
     have HWK:Hid (v.walk fr (f+1) t p way far=none :: (exF (v.J j).kd q).flatMap (v.nxt fr f { t with st:=t.st ++ [[(p:Int),way]],pa:=t.pa ++ [partR (v.P p).ln p way far (v.P p).ln] } j q)):=by
      show v.walk fr (f+1) t p way far=_
      rw [hxx,walk_on HNX.out hin HAT.out hk1]
      rfl
     have HOKn:Hid (TlOk v { t with st:=t.st ++ [[(p:Int),way]],pa:=t.pa ++ [partR (v.P p).ln p way far (v.P p).ln] }∧[(p:Int),way] ∉ t.st):=⟨HOK.out.1.put hp hw hin,hin⟩
     clear hin HAT HC5 HX5 hxx
     have wc9:∃ w9,w9=wc:=⟨_,rfl⟩
     obtain ⟨w9,rfl⟩:=wc9
     go_upto_region 14 with fail
     obtain ⟨fn,tmps,assign,body,hy,hR⟩:=HY.out 2 pre w9 D { t with st:=t.st ++ [[(p:Int),way]],pa:=t.pa ++ [partR (v.P p).ln p way far (v.P p).ln] } (0) false (none) _ _ _ _ HC.out.j HC.out.bel HC.out.now HC.out.free (.inr ⟨rfl,rfl⟩)
     have r0:w9.cell? ⟨w.heap.size,0,none⟩=some (.slice sa2 (t.st.length+1) sc2):=HC.out.bx.cell 0
     have r1:w9.cell? ⟨w.heap.size,1,none⟩=some (.slice pa2 (t.pa.length+1) pc2):=HC.out.bx.cell 1
     have r2:w9.cell? ⟨w.heap.size,2,none⟩=some (.slice la t.li.length lc):=HC.out.bx.cell 2
     have r3:w9.cell? ⟨w.heap.size,3,none⟩=some (.slice xa t.cr.length xc):=HC.out.bx.cell 3
     have r4:w9.cell? ⟨w.heap.size,4,none⟩=some (.int .i64 (0)):=HC.out.bx.cell 4
     have r5:w9.cell? ⟨w.heap.size,5,none⟩=some (.bool false):=HC.out.bx.cell 5
     have HR:Hid (RoundIn Fence.wide 2 Tryz.prog l fn tmps assign body w9 (YPost J Jx pre (none) w9 D)):=hR
     clear hR
     refine (wpIn_wide (n:=3)).1 ?_
     gi_wp2
     refine HR.out.mono ?_
     clear HR hy r0 r1 r2 r3 r4 r5
     rintro e w10 ⟨D',hfr,hD,⟨rfl,hj⟩ | ⟨rfl,hj⟩⟩
     ·have H10:Hid (CmS n0 wB w D J (pre ++ [none]) D' t (.slice sa1 t.st.length sc1) (.slice pa1 t.pa.length pc1) (.slice la t.li.length lc) (.slice xa t.cr.length xc) (t.st ++ [[(p:Int),way]]) (t.pa ++ [partR (v.P p).ln p way far (v.P p).ln]) (.slice sa2 (t.st.length+1) sc2) (.slice pa2 (t.pa.length+1) pc2) (0) false p way w10):=HC.out.round HJ.out hfr hD hj
      gi_wp2
      obtain ⟨be,offe,rfl,hbe1,hbe2,hce⟩:=hns hxl.1
      have hz56:=HZ.out.2.2
      have hDb:∀ k,D' k→k≠b5∧k≠be:=fun k hk=>(hD k hk).elim (fun e=>by have:=HDw.out k e;have:=hz5.out;omega) (fun e=>by have:=hz5.out;omega)
      have hDn:¬D b5∧¬D be:=⟨fun e=>by have:=HDw.out _ e;have:=hz5.out;omega,fun e=>by have:=HDw.out _ e;have:=hz5.out;omega⟩
      have HL0:Hid (LxS n0 wB w D J (pre ++ (none :: ((exF (v.J j).kd q).take 0).flatMap (v.nxt fr f { t with st:=t.st ++ [[(p:Int),way]],pa:=t.pa ++ [partR (v.P p).ln p way far (v.P p).ln] } j q))) D' t (.slice sa1 t.st.length sc1) (.slice pa1 t.pa.length pc1) (.slice la t.li.length lc) (.slice xa t.cr.length xc) (t.st ++ [[(p:Int),way]]) (t.pa ++ [partR (v.P p).ln p way far (v.P p).ln]) (.slice sa2 (t.st.length+1) sc2) (.slice pa2 (t.pa.length+1) pc2) p way b5 be offe j q (exF (v.J j).kd q) w10):=⟨by have:=H10.out;simpa using this,HZ.out.2.1.keep (hfr.block b5 (by omega) hDn.1),fun i hi=>(World.cell?_of_block (hfr.block be hbe2 hDn.2)).trans (by have:=hce i hi 0 (by omega);simpa using this),ltl hbe2 hfr.size,hDb,⟨hz5.out,by omega⟩,HSB.out⟩
      have hbb:Hid (b5<be∧w.heap.size+2≤b5):=⟨by omega,hz5.out⟩
      clear hfr hD hj H10 hce hDb hDn HZ HC hns hbe1 hbe2
      go_wp2_with fail
      go_loopg [102] (exF (v.J j).kd q).length (fun gk s102 wr=>∃ (m:Nat) (Dm:Nat→Prop),gk=(exF (v.J j).kd q).length-m∧m≤(exF (v.J j).kd q).length∧s102=.int .i64 m∧Hid (LxS n0 wB w D J (pre ++ (none :: ((exF (v.J j).kd q).take m).flatMap (v.nxt fr f { t with st:=t.st ++ [[(p:Int),way]],pa:=t.pa ++ [partR (v.P p).ln p way far (v.P p).ln] } j q))) Dm t (.slice sa1 t.st.length sc1) (.slice pa1 t.pa.length pc1) (.slice la t.li.length lc) (.slice xa t.cr.length xc) (t.st ++ [[(p:Int),way]]) (t.pa ++ [partR (v.P p).ln p way far (v.P p).ln]) (.slice sa2 (t.st.length+1) sc2) (.slice pa2 (t.pa.length+1) pc2) p way b5 be offe j q (exF (v.J j).kd q) wr))
      case atStart=>exact ⟨0,D',by omega,Nat.zero_le _,rfl,HL0⟩
      case round=>
       clear HL0
       obtain ⟨m,Dm,rfl,hm,rfl,HL⟩:=hrel
       by_cases hlt:m<(exF (v.J j).kd q).length
       ·have cx:wr.cell? ⟨be,offe+m,none⟩=some (.int .i64 (((exF (v.J j).kd q).getD m 0:Nat):Int)):=HL.out.ex m hlt
        have hmi:(m:Int)<((exF (v.J j).kd q).length:Int):=by omega
        have hxm:(exF (v.J j).kd q).getD m 0 ∈ (exF (v.J j).kd q):=by rw [List.getD_eq_getElem?_getD,List.getElem?_eq_getElem hlt];exact List.getElem_mem hlt
        have HTK:Hid ((exF (v.J j).kd q).take (m+1)=(exF (v.J j).kd q).take m ++ [(exF (v.J j).kd q).getD m 0]):=by show _=_;rw [List.take_add_one,List.getD_eq_getElem?_getD,List.getElem?_eq_getElem hlt];rfl
        generalize hxd:(exF (v.J j).kd q).getD m 0=x at cx hxm HTK
        clear hxd
        have HXM:Hid (x ∈ acrossF (v.J j).kd.toNat q):=by have:=hxm;unfold exF at this;rw [if_neg hk1] at this;exact this
        have hxn:x<(v.J j).ne:=hxl.2.2 x hxm
        go_wp2_with fail
        have HKn:Hid (n0≤wr.heap.size):=Nat.le_trans HL.out.cm.nz HL.out.cm.fr.size
        have hb5e:=HL.out.lo
        have hbel:=HL.out.lt
        have hwz:=HL.out.cm.bs.lt
        have hb5l2:=HL.out.bj.lt
        have HDm:Hid (∀ k,Dm k→k<wr.heap.size):=fun k hk=>(HJ.out.lt HL.out.cm.j k hk).2
        have hk234:(v.J j).kd=2∨(v.J j).kd=3∨(v.J j).kd=4:=by omega
        clear hkd
        have HLd:Hid (LxS n0 wB w D J (pre ++ (none :: ((exF (v.J j).kd q).take m).flatMap (v.nxt fr f { t with st:=t.st ++ [[(p:Int),way]],pa:=t.pa ++ [partR (v.P p).ln p way far (v.P p).ln] } j q))) Dm t (.slice sa1 t.st.length sc1) (.slice pa1 t.pa.length pc1) (.slice la t.li.length lc) (.slice xa t.cr.length xc) (t.st ++ [[(p:Int),way]]) (t.pa ++ [partR (v.P p).ln p way far (v.P p).ln]) (.slice sa2 (t.st.length+1) sc2) (.slice pa2 (t.pa.length+1) pc2) p way b5 be offe j q (exF (v.J j).kd q) wr.drew):=HL.out.mono HJ.out (Below.refl _ _).drew
        have HLa:Hid (LxS n0 wB w D J (pre ++ (none :: ((exF (v.J j).kd q).take m).flatMap (v.nxt fr f { t with st:=t.st ++ [[(p:Int),way]],pa:=t.pa ++ [partR (v.P p).ln p way far (v.P p).ln] } j q))) Dm t (.slice sa1 t.st.length sc1) (.slice pa1 t.pa.length pc1) (.slice la t.li.length lc) (.slice xa t.cr.length xc) (t.st ++ [[(p:Int),way]]) (t.pa ++ [partR (v.P p).ln p way far (v.P p).ln]) (.slice sa2 (t.st.length+1) sc2) (.slice pa2 (t.pa.length+1) pc2) p way b5 be offe j q (exF (v.J j).kd q) (wr.alloc (.cells #[.slice none 0 0,.slice none 0 0,.slice none 0 0,.slice none 0 0,.int .i64 0,.bool false] 78)).drew):=HL.out.mono HJ.out (bel1 wr _).drew
        have HTd:Hid (TkAt wr.drew bt v pa pc ja jc sa sc):=HT.out.mono HLd.out.cm.bel hbt
        have HTa:Hid (TkAt (wr.alloc (.cells #[.slice none 0 0,.slice none 0 0,.slice none 0 0,.slice none 0 0,.int .i64 0,.bool false] 78)).drew bt v pa pc ja jc sa sc):=HT.out.mono HLa.out.cm.bel hbt
        have d0:wr.drew.cell? ⟨w.heap.size,0,none⟩=some (.slice sa2 (t.st.length+1) sc2):=HLd.out.cm.bx.cell 0
        have a0:(wr.alloc (.cells #[.slice none 0 0,.slice none 0 0,.slice none 0 0,.slice none 0 0,.int .i64 0,.bool false] 78)).drew.cell? ⟨w.heap.size,0,none⟩=some (.slice sa2 (t.st.length+1) sc2):=HLa.out.cm.bx.cell 0
        have d1:wr.drew.cell? ⟨w.heap.size,1,none⟩=some (.slice pa2 (t.pa.length+1) pc2):=HLd.out.cm.bx.cell 1
        have a1:(wr.alloc (.cells #[.slice none 0 0,.slice none 0 0,.slice none 0 0,.slice none 0 0,.int .i64 0,.bool false] 78)).drew.cell? ⟨w.heap.size,1,none⟩=some (.slice pa2 (t.pa.length+1) pc2):=HLa.out.cm.bx.cell 1
        have d2:wr.drew.cell? ⟨w.heap.size,2,none⟩=some (.slice la t.li.length lc):=HLd.out.cm.bx.cell 2
        have a2:(wr.alloc (.cells #[.slice none 0 0,.slice none 0 0,.slice none 0 0,.slice none 0 0,.int .i64 0,.bool false] 78)).drew.cell? ⟨w.heap.size,2,none⟩=some (.slice la t.li.length lc):=HLa.out.cm.bx.cell 2
        have d3:wr.drew.cell? ⟨w.heap.size,3,none⟩=some (.slice xa t.cr.length xc):=HLd.out.cm.bx.cell 3
        have a3:(wr.alloc (.cells #[.slice none 0 0,.slice none 0 0,.slice none 0 0,.slice none 0 0,.int .i64 0,.bool false] 78)).drew.cell? ⟨w.heap.size,3,none⟩=some (.slice xa t.cr.length xc):=HLa.out.cm.bx.cell 3
        have d4:wr.drew.cell? ⟨w.heap.size,4,none⟩=some (.int .i64 0):=HLd.out.cm.bx.cell 4
        have a4:(wr.alloc (.cells #[.slice none 0 0,.slice none 0 0,.slice none 0 0,.slice none 0 0,.int .i64 0,.bool false] 78)).drew.cell? ⟨w.heap.size,4,none⟩=some (.int .i64 0):=HLa.out.cm.bx.cell 4
        have d5:wr.drew.cell? ⟨w.heap.size,5,none⟩=some (.bool false):=HLd.out.cm.bx.cell 5
        have a5:(wr.alloc (.cells #[.slice none 0 0,.slice none 0 0,.slice none 0 0,.slice none 0 0,.int .i64 0,.bool false] 78)).drew.cell? ⟨w.heap.size,5,none⟩=some (.bool false):=HLa.out.cm.bx.cell 5
        have e0:wr.drew.cell? ⟨b5,0,none⟩=some (.int .i64 (j:Int)):=HLd.out.bj.cell 0
        have ea0:(wr.alloc (.cells #[.slice none 0 0,.slice none 0 0,.slice none 0 0,.slice none 0 0,.int .i64 0,.bool false] 78)).drew.cell? ⟨b5,0,none⟩=some (.int .i64 (j:Int)):=HLa.out.bj.cell 0
        have e1:wr.drew.cell? ⟨b5,1,none⟩=some (.int .i64 (q:Int)):=HLd.out.bj.cell 1
        have ea1:(wr.alloc (.cells #[.slice none 0 0,.slice none 0 0,.slice none 0 0,.slice none 0 0,.int .i64 0,.bool false] 78)).drew.cell? ⟨b5,1,none⟩=some (.int .i64 (q:Int)):=HLa.out.bj.cell 1
        obtain ⟨oo,hoo⟩:∃ oo,Hid (Tl.over { t with st:=t.st ++ [[(p:Int),way]],pa:=t.pa ++ [partR (v.P p).ln p way far (v.P p).ln] } (v.J j).kd j q x=oo):=⟨_,rfl⟩
        clear cx
        have HOV:Hid (∀ W,n0≤W.heap.size→TlIn n0 W { t with st:=t.st ++ [[(p:Int),way]],pa:=t.pa ++ [partR (v.P p).ln p way far (v.P p).ln] } (.slice sa2 (t.st.length+1) sc2) (.slice la t.li.length lc) (.slice xa t.cr.length xc) (.slice pa2 (t.pa.length+1) pc2)→Calls Tryz.prog 100 #[.agg #[.slice sa2 (t.st.length+1) sc2,.slice pa2 (t.pa.length+1) pc2,.slice la t.li.length lc,.slice xa t.cr.length xc,.int .i64 0,.bool false],kindV (v.J j).kd,.agg #[.int .i64 (j:Int),.int .i64 (q:Int)],.int .i64 (x:Int)] W (OvP n0 W { t with st:=t.st ++ [[(p:Int),way]],pa:=t.pa ++ [partR (v.P p).ln p way far (v.P p).ln] } (.slice sa2 (t.st.length+1) sc2) (.slice pa2 (t.pa.length+1) pc2) (.slice la t.li.length lc) (.slice xa t.cr.length xc) oo)):=fun W h1 h2=>by
         have:=overC (v:=v) (t1:={ t with st:=t.st ++ [[(p:Int),way]],pa:=t.pa ++ [partR (v.P p).ln p way far (v.P p).ln] }) sa2 pa2 la xa (t.st.length+1) sc2 (t.pa.length+1) pc2 lc xc (kd:=(v.J j).kd) (j:=j) (q:=q) (x:=x) W h1 h2 hk234 HXM.out HOKn.out.1.li (by show t.li.length≤1000;omega) (by show t.cr.length≤1000;omega)
         rw [hoo.out] at this
         exact this
        have HNXx:Hid ((v.nxt fr f { t with st:=t.st ++ [[(p:Int),way]],pa:=t.pa ++ [partR (v.P p).ln p way far (v.P p).ln] } j q) x=v.nxO fr f j x oo):=by show Ev.nxt _ _ _ _ _ _ _=_;unfold Ev.nxt;rw [hoo.out]
        have HPR:Hid (pre ++ (none :: ((exF (v.J j).kd q).take (m+1)).flatMap (v.nxt fr f { t with st:=t.st ++ [[(p:Int),way]],pa:=t.pa ++ [partR (v.P p).ln p way far (v.P p).ln] } j q))=(pre ++ (none :: ((exF (v.J j).kd q).take m).flatMap (v.nxt fr f { t with st:=t.st ++ [[(p:Int),way]],pa:=t.pa ++ [partR (v.P p).ln p way far (v.P p).ln] } j q))) ++ (v.nxt fr f { t with st:=t.st ++ [[(p:Int),way]],pa:=t.pa ++ [partR (v.P p).ln p way far (v.P p).ln] } j q) x):=by show _=_;rw [HTK.out];simp
        cases oo with
        | none=>
         go_cut [17,18,102] from 102 to 139 (fun s17 s18 s102 wx=>s102=.int .i64 m∧∃ qn,s17=.pointer (some ⟨qn,0,none⟩)∧s18=.bool false∧Hid (LxS n0 wB w D J (pre ++ (none :: ((exF (v.J j).kd q).take m).flatMap (v.nxt fr f { t with st:=t.st ++ [[(p:Int),way]],pa:=t.pa ++ [partR (v.P p).ln p way far (v.P p).ln] } j q))) Dm t (.slice sa1 t.st.length sc1) (.slice pa1 t.pa.length pc1) (.slice la t.li.length lc) (.slice xa t.cr.length xc) (t.st ++ [[(p:Int),way]]) (t.pa ++ [partR (v.P p).ln p way far (v.P p).ln]) (.slice sa2 (t.st.length+1) sc2) (.slice pa2 (t.pa.length+1) pc2) p way b5 be offe j q (exF (v.J j).kd q) wx))
         case first=>
          go_region_held3 (fun w'=>w'.cell? ⟨w.heap.size,0,none⟩=some (.slice sa2 (t.st.length+1) sc2)∧w'.cell? ⟨w.heap.size,1,none⟩=some (.slice pa2 (t.pa.length+1) pc2)∧w'.cell? ⟨w.heap.size,2,none⟩=some (.slice la t.li.length lc)∧w'.cell? ⟨w.heap.size,3,none⟩=some (.slice xa t.cr.length xc)∧w'.cell? ⟨w.heap.size,4,none⟩=some (.int .i64 0)∧w'.cell? ⟨w.heap.size,5,none⟩=some (.bool false)∧w'.cell? ⟨b5,0,none⟩=some (.int .i64 (j:Int))∧w'.cell? ⟨b5,1,none⟩=some (.int .i64 (q:Int))) (go_keep) (first
           | (go_at_call 99;refine (kind99 OK.out j _ (by first | exact HTd.out | exact HTa.out) hjm).mono ?_;rintro e w7 ⟨rfl,rfl⟩)
           | (go_at_call 100;refine (HOV.out _ (by first | exact HKn.out | exact Nat.le_trans HKn.out (bel1 wr _).size) (by first | exact HLd.out.cm.now | exact HLa.out.cm.now)).mono ?_;rintro e w8 ⟨rfl,hb8⟩;have HL8:Hid (LxS n0 wB w D J (pre ++ (none :: ((exF (v.J j).kd q).take m).flatMap (v.nxt fr f { t with st:=t.st ++ [[(p:Int),way]],pa:=t.pa ++ [partR (v.P p).ln p way far (v.P p).ln] } j q))) Dm t (.slice sa1 t.st.length sc1) (.slice pa1 t.pa.length pc1) (.slice la t.li.length lc) (.slice xa t.cr.length xc) (t.st ++ [[(p:Int),way]]) (t.pa ++ [partR (v.P p).ln p way far (v.P p).ln]) (.slice sa2 (t.st.length+1) sc2) (.slice pa2 (t.pa.length+1) pc2) p way b5 be offe j q (exF (v.J j).kd q) w8):=(by first | exact HLd.out.mono HJ.out hb8 | exact HLa.out.mono HJ.out hb8);(try (have hV8:Hid (Box w8 wr.heap.size 78 #[.slice none 0 0,.slice none 0 0,.slice none 0 0,.slice none 0 0,.int .i64 0,.bool false]):=(Box.new wr 78 #[.slice none 0 0,.slice none 0 0,.slice none 0 0,.slice none 0 0,.int .i64 0,.bool false]).drew.mono hb8 lr));have hz8:Hid (wr.heap.size≤w8.heap.size):=(by first | exact hb8.size | exact Nat.le_trans (bel1 wr _).size hb8.size);have m0:w8.cell? ⟨w.heap.size,0,none⟩=some (.slice sa2 (t.st.length+1) sc2):=HL8.out.cm.bx.cell 0;have m1:w8.cell? ⟨w.heap.size,1,none⟩=some (.slice pa2 (t.pa.length+1) pc2):=HL8.out.cm.bx.cell 1;have m2:w8.cell? ⟨w.heap.size,2,none⟩=some (.slice la t.li.length lc):=HL8.out.cm.bx.cell 2;have m3:w8.cell? ⟨w.heap.size,3,none⟩=some (.slice xa t.cr.length xc):=HL8.out.cm.bx.cell 3;have m4:w8.cell? ⟨w.heap.size,4,none⟩=some (.int .i64 0):=HL8.out.cm.bx.cell 4;have m5:w8.cell? ⟨w.heap.size,5,none⟩=some (.bool false):=HL8.out.cm.bx.cell 5;have m6:w8.cell? ⟨b5,0,none⟩=some (.int .i64 (j:Int)):=HL8.out.bj.cell 0;have m7:w8.cell? ⟨b5,1,none⟩=some (.int .i64 (q:Int)):=HL8.out.bj.cell 1;(try (have c0:w8.cell? ⟨wr.heap.size,0,none⟩=some (.slice none 0 0):=hV8.out.cell 0;have c1:w8.cell? ⟨wr.heap.size,1,none⟩=some (.slice none 0 0):=hV8.out.cell 1;have c2:w8.cell? ⟨wr.heap.size,2,none⟩=some (.slice none 0 0):=hV8.out.cell 2;have c3:w8.cell? ⟨wr.heap.size,3,none⟩=some (.slice none 0 0):=hV8.out.cell 3;have c4:w8.cell? ⟨wr.heap.size,4,none⟩=some (.int .i64 0):=hV8.out.cell 4;have c5:w8.cell? ⟨wr.heap.size,5,none⟩=some (.bool false):=hV8.out.cell 5;have f0:=hV8.out.free 0;have f1:=hV8.out.free 1;have f2:=hV8.out.free 2;have f3:=hV8.out.free 3;have f4:=hV8.out.free 4;have f5:=hV8.out.free 5));have n1:wr.heap.size≠w.heap.size:=(by omega);have n2:wr.heap.size≠b5:=(by omega);have n3:w8.heap.size≠w.heap.size:=(by have:=hz8.out;omega);have n4:w8.heap.size≠b5:=(by have:=hz8.out;omega)))
          all_goals
           go_wp2_with fail
           go_meet
           case rel=>first
            | (have hz:=hV8;exact ⟨rfl,wr.heap.size,rfl,rfl,HL8.out.fr HJ.out (Fr.set6 (X:=fun k=>be<k∧¬Dm k) ⟨hbel,fun e=>by have:=HDm.out _ e;omega⟩ _ _ _ _ _ _)⟩)
            | exact ⟨rfl,w8.heap.size,rfl,rfl,HL8.out.mono HJ.out (bel1 w8 _)⟩
         case rest=>
          obtain ⟨rfl,qn,rfl,rfl,HN⟩:=hcut
          clear d0 d1 d2 d3 d4 d5 a0 a1 a2 a3 a4 a5 e0 e1 ea0 ea1 HLd HLa HTd HTa HOV HL hoo
          have HN2:Hid (LxS n0 wB w D J (pre ++ (none :: ((exF (v.J j).kd q).take (m+1)).flatMap (v.nxt fr f { t with st:=t.st ++ [[(p:Int),way]],pa:=t.pa ++ [partR (v.P p).ln p way far (v.P p).ln] } j q))) Dm t (.slice sa1 t.st.length sc1) (.slice pa1 t.pa.length pc1) (.slice la t.li.length lc) (.slice xa t.cr.length xc) (t.st ++ [[(p:Int),way]]) (t.pa ++ [partR (v.P p).ln p way far (v.P p).ln]) (.slice sa2 (t.st.length+1) sc2) (.slice pa2 (t.pa.length+1) pc2) p way b5 be offe j q (exF (v.J j).kd q) wc):=by show LxS _ _ _ _ _ _ _ _ _ _ _ _ _ _ _ _ _ _ _ _ _ _ _ _ _;rw [HPR.out,HNXx.out,show v.nxO fr f j x none=[] from rfl,List.append_nil];exact HN.out
          go_wp2_with fail
          go_quiet (fail)
          go_wp2_with fail
          go_roundg ((exF (v.J j).kd q).length-(m+1))
          case measure=>omega
          case rel=>exact ⟨m+1,Dm,rfl,by omega,by go_num,HN2.out.mono HJ.out (below_drewN (Below.refl _ _) nq)⟩
        | some t2=>
         go_cut [17,18,102] from 102 to 139 (fun s17 s18 s102 wx=>s102=.int .i64 m∧∃ qn,s17=.pointer (some ⟨qn,0,none⟩)∧s18=.bool true∧∃ la2 lc2 xa2 xc2 kl kx,Hid (t2.st=t.st ++ [[(p:Int),way]]∧t2.pa=t.pa ++ [partR (v.P p).ln p way far (v.P p).ln]∧t2.li=t.li ++ kl∧t2.cr=t.cr ++ kx)∧Hid (∀ g,(Value.slice la2 t2.li.length lc2).ownBlock=some g→(.slice la t.li.length lc:Value).ownBlock=some g∨wr.heap.size≤g)∧Hid (∀ g,(Value.slice xa2 t2.cr.length xc2).ownBlock=some g→(.slice xa t.cr.length xc:Value).ownBlock=some g∨wr.heap.size≤g)∧be<qn∧Hid (¬Dm qn)∧Hid (LxS n0 wB w D J (pre ++ (none :: ((exF (v.J j).kd q).take m).flatMap (v.nxt fr f { t with st:=t.st ++ [[(p:Int),way]],pa:=t.pa ++ [partR (v.P p).ln p way far (v.P p).ln] } j q))) Dm t (.slice sa1 t.st.length sc1) (.slice pa1 t.pa.length pc1) (.slice la t.li.length lc) (.slice xa t.cr.length xc) (t.st ++ [[(p:Int),way]]) (t.pa ++ [partR (v.P p).ln p way far (v.P p).ln]) (.slice sa2 (t.st.length+1) sc2) (.slice pa2 (t.pa.length+1) pc2) p way b5 be offe j q (exF (v.J j).kd q) wx∧Box wx qn 78 #[.slice sa2 (t.st.length+1) sc2,.slice pa2 (t.pa.length+1) pc2,.slice la2 t2.li.length lc2,.slice xa2 t2.cr.length xc2,.int .i64 0,.bool false]∧TlIn n0 wx t2 (.slice sa2 (t.st.length+1) sc2) (.slice la2 t2.li.length lc2) (.slice xa2 t2.cr.length xc2) (.slice pa2 (t.pa.length+1) pc2)))
         case first=>
          go_region_held3 (fun w'=>w'.cell? ⟨w.heap.size,0,none⟩=some (.slice sa2 (t.st.length+1) sc2)∧w'.cell? ⟨w.heap.size,1,none⟩=some (.slice pa2 (t.pa.length+1) pc2)∧w'.cell? ⟨w.heap.size,2,none⟩=some (.slice la t.li.length lc)∧w'.cell? ⟨w.heap.size,3,none⟩=some (.slice xa t.cr.length xc)∧w'.cell? ⟨w.heap.size,4,none⟩=some (.int .i64 0)∧w'.cell? ⟨w.heap.size,5,none⟩=some (.bool false)∧w'.cell? ⟨b5,0,none⟩=some (.int .i64 (j:Int))∧w'.cell? ⟨b5,1,none⟩=some (.int .i64 (q:Int))) (go_keep) (first
           | (go_at_call 99;refine (kind99 OK.out j _ (by first | exact HTd.out | exact HTa.out) hjm).mono ?_;rintro e w7 ⟨rfl,rfl⟩)
           | (go_at_call 100;refine (HOV.out _ (by first | exact HKn.out | exact Nat.le_trans HKn.out (bel1 wr _).size) (by first | exact HLd.out.cm.now | exact HLa.out.cm.now)).mono ?_;rintro e w8 ⟨lv2,xv2,kl,kx,rfl,q1,q2,q3,q4,ht2,ht1,hf8,hm8,hn8⟩;have HQ:Hid (t2.st=t.st ++ [[(p:Int),way]]∧t2.pa=t.pa ++ [partR (v.P p).ln p way far (v.P p).ln]∧t2.li=t.li ++ kl∧t2.cr=t.cr ++ kx):=⟨q1,q2,q3,q4⟩;clear q1 q2 q3 q4;obtain ⟨la2,lc2,rfl⟩:=ht2.l.val;obtain ⟨xa2,xc2,rfl⟩:=ht2.x.val;have HL8:Hid (LxS n0 wB w D J (pre ++ (none :: ((exF (v.J j).kd q).take m).flatMap (v.nxt fr f { t with st:=t.st ++ [[(p:Int),way]],pa:=t.pa ++ [partR (v.P p).ln p way far (v.P p).ln] } j q))) Dm t (.slice sa1 t.st.length sc1) (.slice pa1 t.pa.length pc1) (.slice la t.li.length lc) (.slice xa t.cr.length xc) (t.st ++ [[(p:Int),way]]) (t.pa ++ [partR (v.P p).ln p way far (v.P p).ln]) (.slice sa2 (t.st.length+1) sc2) (.slice pa2 (t.pa.length+1) pc2) p way b5 be offe j q (exF (v.J j).kd q) w8):=(by first | exact HLd.out.overd HJ.out hf8 ht1 | exact HLa.out.overd HJ.out hf8 ht1);(try (have hV8:Hid (Box w8 wr.heap.size 78 #[.slice none 0 0,.slice none 0 0,.slice none 0 0,.slice none 0 0,.int .i64 0,.bool false]):=(Box.new wr 78 #[.slice none 0 0,.slice none 0 0,.slice none 0 0,.slice none 0 0,.int .i64 0,.bool false]).drew.keep (hf8.block wr.heap.size (by simp [World.drew]) (fun e=>by have:=HLa.out.cm.old _ (.inr (.inr e));omega))));have hz8:Hid (wr.heap.size≤w8.heap.size):=(by first | exact hf8.size | exact Nat.le_trans (bel1 wr _).size hf8.size);have hml8:Hid (∀ g,(Value.slice la2 t2.li.length lc2).ownBlock=some g→(.slice la t.li.length lc:Value).ownBlock=some g∨wr.heap.size≤g):=fun g hg=>(hm8 g hg).imp id (fun e=>by first | exact e | exact Nat.le_trans (bel1 wr _).size e);have hmx8:Hid (∀ g,(Value.slice xa2 t2.cr.length xc2).ownBlock=some g→(.slice xa t.cr.length xc:Value).ownBlock=some g∨wr.heap.size≤g):=fun g hg=>(hn8 g hg).imp id (fun e=>by first | exact e | exact Nat.le_trans (bel1 wr _).size e);have HT2:Hid (TlIn n0 w8 t2 (.slice sa2 (t.st.length+1) sc2) (.slice la2 t2.li.length lc2) (.slice xa2 t2.cr.length xc2) (.slice pa2 (t.pa.length+1) pc2)):=ht2;have m0:w8.cell? ⟨w.heap.size,0,none⟩=some (.slice sa2 (t.st.length+1) sc2):=HL8.out.cm.bx.cell 0;have m1:w8.cell? ⟨w.heap.size,1,none⟩=some (.slice pa2 (t.pa.length+1) pc2):=HL8.out.cm.bx.cell 1;have m2:w8.cell? ⟨w.heap.size,2,none⟩=some (.slice la t.li.length lc):=HL8.out.cm.bx.cell 2;have m3:w8.cell? ⟨w.heap.size,3,none⟩=some (.slice xa t.cr.length xc):=HL8.out.cm.bx.cell 3;have m4:w8.cell? ⟨w.heap.size,4,none⟩=some (.int .i64 0):=HL8.out.cm.bx.cell 4;have m5:w8.cell? ⟨w.heap.size,5,none⟩=some (.bool false):=HL8.out.cm.bx.cell 5;have m6:w8.cell? ⟨b5,0,none⟩=some (.int .i64 (j:Int)):=HL8.out.bj.cell 0;have m7:w8.cell? ⟨b5,1,none⟩=some (.int .i64 (q:Int)):=HL8.out.bj.cell 1;(try (have c0:w8.cell? ⟨wr.heap.size,0,none⟩=some (.slice none 0 0):=hV8.out.cell 0;have c1:w8.cell? ⟨wr.heap.size,1,none⟩=some (.slice none 0 0):=hV8.out.cell 1;have c2:w8.cell? ⟨wr.heap.size,2,none⟩=some (.slice none 0 0):=hV8.out.cell 2;have c3:w8.cell? ⟨wr.heap.size,3,none⟩=some (.slice none 0 0):=hV8.out.cell 3;have c4:w8.cell? ⟨wr.heap.size,4,none⟩=some (.int .i64 0):=hV8.out.cell 4;have c5:w8.cell? ⟨wr.heap.size,5,none⟩=some (.bool false):=hV8.out.cell 5;have f0:=hV8.out.free 0;have f1:=hV8.out.free 1;have f2:=hV8.out.free 2;have f3:=hV8.out.free 3;have f4:=hV8.out.free 4;have f5:=hV8.out.free 5));have n1:wr.heap.size≠w.heap.size:=(by omega);have n2:wr.heap.size≠b5:=(by omega);have n3:w8.heap.size≠w.heap.size:=(by have:=hz8.out;omega);have n4:w8.heap.size≠b5:=(by have:=hz8.out;omega)))
          all_goals
           go_wp2_with fail
           go_meet
           case rel=>first
            | (have hz:=hV8;exact ⟨rfl,wr.heap.size,rfl,rfl,la2,lc2,xa2,xc2,kl,kx,HQ,hml8,hmx8,hbel,fun e=>Nat.lt_irrefl _ (HDm.out _ e),HL8.out.fr HJ.out (Fr.set6 (X:=fun k=>be<k∧¬Dm k) ⟨hbel,fun e=>by have:=HDm.out _ e;omega⟩ _ _ _ _ _ _),hV8.out.set6 _ _ _ _ _ _,⟨HT2.out.s.set6 hV8.out (by decide) _ _ _ _ _ _,HT2.out.l.set6 hV8.out (by decide) _ _ _ _ _ _,HT2.out.x.set6 hV8.out (by decide) _ _ _ _ _ _,HT2.out.q.set6 hV8.out (by decide) _ _ _ _ _ _⟩⟩)
            | exact ⟨rfl,w8.heap.size,rfl,rfl,la2,lc2,xa2,xc2,kl,kx,HQ,hml8,hmx8,ltl hbel hz8.out,fun e=>absurd (HDm.out _ e) (Nat.not_lt.2 hz8.out),HL8.out.mono HJ.out (bel1 w8 _),Box.new w8 78 _,⟨HT2.out.s.alloc _,HT2.out.l.alloc _,HT2.out.x.alloc _,HT2.out.q.alloc _⟩⟩
         case rest=>
          obtain ⟨rfl,qn,rfl,rfl,la2,lc2,xa2,xc2,kl,kx,HQ,hml,hmx,hqn,hnq,HN⟩:=hcut
          obtain ⟨ok2,lk2,st2⟩:=over_ok HOKn.out.1 HOK.out.2 (by show t.li.length+1≤(t.st ++ [[(p:Int),way]]).length;simp;omega) (by show t.cr.length+1≤(t.st ++ [[(p:Int),way]]).length;simp;omega) hjm HXM.out hoo.out
          have HO2:Hid (TlOk v t2∧LieK t2.li∧t2.st.length=t.st.length+1):=⟨ok2,lk2,by rw [st2];simp⟩
          clear ok2 lk2 st2
          clear d0 d1 d2 d3 d4 d5 a0 a1 a2 a3 a4 a5 e0 e1 ea0 ea1 HLd HLa HTd HTa HOV HL hoo
          obtain ⟨p0,p1,psd⟩:=OK.out.en j hjm x hxn
          obtain ⟨pN,hpN⟩:∃ pN:Nat,Hid (((v.J j).E x).pc=(pN:Int)):=⟨((v.J j).E x).pc.toNat,by show ((v.J j).E x).pc=_;omega⟩
          have hpn:pN<v.n:=by have:=hpN.out;omega
          obtain ⟨sdv,hsd⟩:∃ sdv,Hid (((v.J j).E x).sd=sdv):=⟨_,rfl⟩
          rw [hsd.out] at psd
          have HEX:Hid ((v.J j).E x=⟨(pN:Int),sdv⟩):=by show _=_;rw [← hpN.out,← hsd.out]
          have hwy:wayOf ⟨(pN:Int),sdv⟩=1∨wayOf ⟨(pN:Int),sdv⟩=-1:=by unfold wayOf;split <;> simp
          have hlp:=OK.out.ln pN hpn
          have HLd:Hid (LxS n0 wB w D J (pre ++ (none :: ((exF (v.J j).kd q).take m).flatMap (v.nxt fr f { t with st:=t.st ++ [[(p:Int),way]],pa:=t.pa ++ [partR (v.P p).ln p way far (v.P p).ln] } j q))) Dm t (.slice sa1 t.st.length sc1) (.slice pa1 t.pa.length pc1) (.slice la t.li.length lc) (.slice xa t.cr.length xc) (t.st ++ [[(p:Int),way]]) (t.pa ++ [partR (v.P p).ln p way far (v.P p).ln]) (.slice sa2 (t.st.length+1) sc2) (.slice pa2 (t.pa.length+1) pc2) p way b5 be offe j q (exF (v.J j).kd q) wc.drew):=HN.out.1.mono HJ.out (Below.refl _ _).drew
          have HBd:Hid (Box wc.drew qn 78 #[.slice sa2 (t.st.length+1) sc2,.slice pa2 (t.pa.length+1) pc2,.slice la2 t2.li.length lc2,.slice xa2 t2.cr.length xc2,.int .i64 0,.bool false]):=HN.out.2.1.drew
          have HT2d:Hid (TlIn n0 wc.drew t2 (.slice sa2 (t.st.length+1) sc2) (.slice la2 t2.li.length lc2) (.slice xa2 t2.cr.length xc2) (.slice pa2 (t.pa.length+1) pc2)):=HN.out.2.2.mono (Below.refl wc.heap.size wc).drew lr
          obtain ⟨jb,joff,rfl,_,hjb,hjc⟩:=HT.out.net.j (by omega)
          obtain ⟨ea,ec,_,_,k2,hEs⟩:=hjc j hjm
          obtain ⟨eb,eoff,rfl,_,heb,hec⟩:=hEs (by omega)
          obtain ⟨k3,k4⟩:=hec x hxn
          rw [hpN.out] at k3
          rw [hsd.out] at k4
          have k1:=HT.out.j
          have hbtl:=HT.out.lt
          have hji:(j:Int)<(v.m:Int):=by omega
          have hj0:(0:Int)≤(j:Int):=by omega
          have hxi:(x:Int)<((v.J j).ne:Int):=by omega
          have hx0:(0:Int)≤(x:Int):=by omega
          skip
          clear hjc hEs hec p0 p1 HN
          have s0:wc.drew.cell? ⟨qn,0,none⟩=some (.slice sa2 (t.st.length+1) sc2):=HBd.out.cell 0
          have s1:wc.drew.cell? ⟨qn,1,none⟩=some (.slice pa2 (t.pa.length+1) pc2):=HBd.out.cell 1
          have s2:wc.drew.cell? ⟨qn,2,none⟩=some (.slice la2 t2.li.length lc2):=HBd.out.cell 2
          have s3:wc.drew.cell? ⟨qn,3,none⟩=some (.slice xa2 t2.cr.length xc2):=HBd.out.cell 3
          have s4:wc.drew.cell? ⟨qn,4,none⟩=some (.int .i64 0):=HBd.out.cell 4
          have s5:wc.drew.cell? ⟨qn,5,none⟩=some (.bool false):=HBd.out.cell 5
          have s6:wc.drew.cell? ⟨bt,1,none⟩=some (.slice (some ⟨jb,joff,none⟩) v.m jc):=cell_keep HLd.out.cm.bel (ltl hbtl hbt) k1
          have s7:wc.drew.cell? ⟨b5,0,none⟩=some (.int .i64 (j:Int)):=HLd.out.bj.cell 0
          have s8:wc.drew.cell? ⟨jb,joff+j*3+2,none⟩=some (.slice (some ⟨eb,eoff,none⟩) (v.J j).ne ec):=cell_keep HLd.out.cm.bel (ltl hjb hbt) k2
          have s9:wc.drew.cell? ⟨eb,eoff+x*2,none⟩=some (.int .i64 (pN:Int)):=cell_keep HLd.out.cm.bel (ltl heb hbt) k3
          have s10:wc.drew.cell? ⟨eb,eoff+x*2+1,none⟩=some (.int .i64 sdv):=cell_keep HLd.out.cm.bel (ltl heb hbt) k4
          have HCH:Hid (∀ W,LxS n0 wB w D J (pre ++ (none :: ((exF (v.J j).kd q).take m).flatMap (v.nxt fr f { t with st:=t.st ++ [[(p:Int),way]],pa:=t.pa ++ [partR (v.P p).ln p way far (v.P p).ln] } j q))) Dm t (.slice sa1 t.st.length sc1) (.slice pa1 t.pa.length pc1) (.slice la t.li.length lc) (.slice xa t.cr.length xc) (t.st ++ [[(p:Int),way]]) (t.pa ++ [partR (v.P p).ln p way far (v.P p).ln]) (.slice sa2 (t.st.length+1) sc2) (.slice pa2 (t.pa.length+1) pc2) p way b5 be offe j q (exF (v.J j).kd q) W→TlIn n0 W t2 (.slice sa2 (t.st.length+1) sc2) (.slice la2 t2.li.length lc2) (.slice xa2 t2.cr.length xc2) (.slice pa2 (t.pa.length+1) pc2)→be<W.heap.size→Calls Tryz.prog 67 #[.pointer (some ⟨bt,0,none⟩),.agg #[.slice sa2 (t.st.length+1) sc2,.slice pa2 (t.pa.length+1) pc2,.slice la2 t2.li.length lc2,.slice xa2 t2.cr.length xc2,.int .i64 0,.bool false],.agg #[.int .i64 (pN:Int),.int .i64 (wayOf ⟨(pN:Int),sdv⟩)],.int .i64 0,.func (.yield l) #[] #[]] W (fun e W'=>∃ (rb:Bool) (D2:Nat→Prop),e=.returned (.bool rb)∧(∀ k,D2 k→Dm k∨W.heap.size≤k)∧Fr (fun k=>Dm k∨TrB (.slice sa2 (t.st.length+1) sc2) (.slice pa2 (t.pa.length+1) pc2) (.slice la2 t2.li.length lc2) (.slice xa2 t2.cr.length xc2) k) W W'∧TlIn n0 W' t2 (.slice sa2 (t.st.length+1) sc2) (.slice la2 t2.li.length lc2) (.slice xa2 t2.cr.length xc2) (.slice pa2 (t.pa.length+1) pc2)∧Hid ((rb=true→J ((pre ++ (none :: ((exF (v.J j).kd q).take m).flatMap (v.nxt fr f { t with st:=t.st ++ [[(p:Int),way]],pa:=t.pa ++ [partR (v.P p).ln p way far (v.P p).ln] } j q))) ++ (v.nxt fr f { t with st:=t.st ++ [[(p:Int),way]],pa:=t.pa ++ [partR (v.P p).ln p way far (v.P p).ln] } j q) x) W' D2)∧(rb=false→∃ q0,q0 <+: (v.nxt fr f { t with st:=t.st ++ [[(p:Int),way]],pa:=t.pa ++ [partR (v.P p).ln p way far (v.P p).ln] } j q) x∧Jx ((pre ++ (none :: ((exF (v.J j).kd q).take m).flatMap (v.nxt fr f { t with st:=t.st ++ [[(p:Int),way]],pa:=t.pa ++ [partR (v.P p).ln p way far (v.P p).ln] } j q))) ++ q0) W' D2)))):=fun W h1 h2 h3=>by
           refine (IH.out (pre ++ (none :: ((exF (v.J j).kd q).take m).flatMap (v.nxt fr f { t with st:=t.st ++ [[(p:Int),way]],pa:=t.pa ++ [partR (v.P p).ln p way far (v.P p).ln] } j q))) W Dm t2 _ _ _ _ pN (wayOf ⟨(pN:Int),sdv⟩) 0 h1.cm.j h1.cm.bel h2 (fun k hk e=>?_) HO2.out.1 HO2.out.2.1 hpn hwy (by omega) (by omega) (by have:=HO2.out.2.2;omega)).mono ?_
           ·rcases e with e | e | e | e
            ·exact (h1.cm.nd k hk).2.1 e
            ·exact (h1.cm.nd k hk).2.2.1 e
            ·rcases hml.out k e with e | e
             ·exact (h1.cm.nd k hk).1 (.inr (.inr (.inl e)))
             ·exact absurd (HDm.out k hk) (Nat.not_lt.2 e)
            ·rcases hmx.out k e with e | e
             ·exact (h1.cm.nd k hk).1 (.inr (.inr (.inr e)))
             ·exact absurd (HDm.out k hk) (Nat.not_lt.2 e)
           ·rintro e W2 ⟨D2,z1,z2,z3,z4⟩
            have hw:(v.nxt fr f { t with st:=t.st ++ [[(p:Int),way]],pa:=t.pa ++ [partR (v.P p).ln p way far (v.P p).ln] } j q) x=v.walk fr f t2 pN (wayOf ⟨(pN:Int),sdv⟩) 0:=by rw [HNXx.out];show v.walk fr f t2 _ _ 0=_;rw [HEX.out,Int.toNat_natCast]
            rw [hw]
            rcases z4 with ⟨z5,z6⟩ | ⟨z5,z6⟩
            ·exact ⟨true,D2,z5,z1,z2,z3,fun _=>z6,fun h=>by cases h⟩
            ·exact ⟨false,D2,z5,z1,z2,z3,fun h=>(by cases h),fun _=>z6⟩
          go_wp2_with fail
          go_region_held3 (fun w'=>w'.cell? ⟨qn,0,none⟩=some (.slice sa2 (t.st.length+1) sc2)∧w'.cell? ⟨qn,1,none⟩=some (.slice pa2 (t.pa.length+1) pc2)∧w'.cell? ⟨qn,2,none⟩=some (.slice la2 t2.li.length lc2)∧w'.cell? ⟨qn,3,none⟩=some (.slice xa2 t2.cr.length xc2)∧w'.cell? ⟨qn,4,none⟩=some (.int .i64 0)∧w'.cell? ⟨qn,5,none⟩=some (.bool false)∧w'.cell? ⟨bt,1,none⟩=some (.slice (some ⟨jb,joff,none⟩) v.m jc)∧w'.cell? ⟨b5,0,none⟩=some (.int .i64 (j:Int))∧w'.cell? ⟨jb,joff+j*3+2,none⟩=some (.slice (some ⟨eb,eoff,none⟩) (v.J j).ne ec)∧w'.cell? ⟨eb,eoff+x*2,none⟩=some (.int .i64 (pN:Int))∧w'.cell? ⟨eb,eoff+x*2+1,none⟩=some (.int .i64 sdv)) (go_keep) (first
           | (go_at_call 101;refine (away101 (pN:Int) sdv _ psd).mono ?_;rintro e w8 ⟨rfl,hb8⟩;have HL8:Hid (LxS n0 wB w D J (pre ++ (none :: ((exF (v.J j).kd q).take m).flatMap (v.nxt fr f { t with st:=t.st ++ [[(p:Int),way]],pa:=t.pa ++ [partR (v.P p).ln p way far (v.P p).ln] } j q))) Dm t (.slice sa1 t.st.length sc1) (.slice pa1 t.pa.length pc1) (.slice la t.li.length lc) (.slice xa t.cr.length xc) (t.st ++ [[(p:Int),way]]) (t.pa ++ [partR (v.P p).ln p way far (v.P p).ln]) (.slice sa2 (t.st.length+1) sc2) (.slice pa2 (t.pa.length+1) pc2) p way b5 be offe j q (exF (v.J j).kd q) w8):=HLd.out.mono HJ.out hb8;have HB8:Hid (Box w8 qn 78 #[.slice sa2 (t.st.length+1) sc2,.slice pa2 (t.pa.length+1) pc2,.slice la2 t2.li.length lc2,.slice xa2 t2.cr.length xc2,.int .i64 0,.bool false]):=HBd.out.mono hb8 lr;have HT8:Hid (TlIn n0 w8 t2 (.slice sa2 (t.st.length+1) sc2) (.slice la2 t2.li.length lc2) (.slice xa2 t2.cr.length xc2) (.slice pa2 (t.pa.length+1) pc2)):=HT2d.out.mono hb8 lr;have m0:w8.cell? ⟨qn,0,none⟩=some (.slice sa2 (t.st.length+1) sc2):=HB8.out.cell 0;have m1:w8.cell? ⟨qn,1,none⟩=some (.slice pa2 (t.pa.length+1) pc2):=HB8.out.cell 1;have m2:w8.cell? ⟨qn,2,none⟩=some (.slice la2 t2.li.length lc2):=HB8.out.cell 2;have m3:w8.cell? ⟨qn,3,none⟩=some (.slice xa2 t2.cr.length xc2):=HB8.out.cell 3;have m4:w8.cell? ⟨qn,4,none⟩=some (.int .i64 0):=HB8.out.cell 4;have m5:w8.cell? ⟨qn,5,none⟩=some (.bool false):=HB8.out.cell 5;have m6:w8.cell? ⟨bt,1,none⟩=some (.slice (some ⟨jb,joff,none⟩) v.m jc):=cell_keep HL8.out.cm.bel (ltl hbtl hbt) k1;have m7:w8.cell? ⟨b5,0,none⟩=some (.int .i64 (j:Int)):=HL8.out.bj.cell 0;have m8:w8.cell? ⟨jb,joff+j*3+2,none⟩=some (.slice (some ⟨eb,eoff,none⟩) (v.J j).ne ec):=cell_keep HL8.out.cm.bel (ltl hjb hbt) k2;have m9:w8.cell? ⟨eb,eoff+x*2,none⟩=some (.int .i64 (pN:Int)):=cell_keep HL8.out.cm.bel (ltl heb hbt) k3;have m10:w8.cell? ⟨eb,eoff+x*2+1,none⟩=some (.int .i64 sdv):=cell_keep HL8.out.cm.bel (ltl heb hbt) k4)
           | (go_at_call 67;refine (HCH.out _ HL8.out HT8.out HL8.out.lt).mono ?_;rintro e w9 ⟨rb,D2,rfl,y1,y2,y3,HY3⟩;have HL9:Hid (LxS n0 wB w D (fun _ _ _=>True) (pre ++ (none :: ((exF (v.J j).kd q).take m).flatMap (v.nxt fr f { t with st:=t.st ++ [[(p:Int),way]],pa:=t.pa ++ [partR (v.P p).ln p way far (v.P p).ln] } j q))) D2 t (.slice sa1 t.st.length sc1) (.slice pa1 t.pa.length pc1) (.slice la t.li.length lc) (.slice xa t.cr.length xc) (t.st ++ [[(p:Int),way]]) (t.pa ++ [partR (v.P p).ln p way far (v.P p).ln]) (.slice sa2 (t.st.length+1) sc2) (.slice pa2 (t.pa.length+1) pc2) p way b5 be offe j q (exF (v.J j).kd q) w9):=HL8.out.child HJ.out (lv2:=.slice la2 t2.li.length lc2) (xv2:=.slice xa2 t2.cr.length xc2) (kl:=kl) (kx:=kx) (by rw [← HQ.out.2.2.1];exact HT8.out.l) (by rw [← HQ.out.2.2.2];exact HT8.out.x) (fun g hg=>(hml.out g hg).imp id (fun e=>ltl hbel e)) (fun g hg=>(hmx.out g hg).imp id (fun e=>ltl hbel e)) y2 (by rw [← HQ.out.1];exact y3.s) (by rw [← HQ.out.2.1];exact y3.q) (by rw [← HQ.out.2.2.1];exact y3.l) (by rw [← HQ.out.2.2.2];exact y3.x) y1 trivial;have HB9:Hid (Box w9 qn 78 #[.slice sa2 (t.st.length+1) sc2,.slice pa2 (t.pa.length+1) pc2,.slice la2 t2.li.length lc2,.slice xa2 t2.cr.length xc2,.int .i64 0,.bool false]):=HB8.out.keep (y2.block qn HB8.out.lt (fun e=>e.elim hnq.out (fun e=>e.elim (fun e=>HT8.out.s.off HB8.out (by decide) e rfl) (fun e=>e.elim (fun e=>HT8.out.q.off HB8.out (by decide) e rfl) (fun e=>e.elim (fun e=>HT8.out.l.off HB8.out (by decide) e rfl) (fun e=>HT8.out.x.off HB8.out (by decide) e rfl))))));have u0:w9.cell? ⟨qn,0,none⟩=some (.slice sa2 (t.st.length+1) sc2):=HB9.out.cell 0;have u1:w9.cell? ⟨qn,1,none⟩=some (.slice pa2 (t.pa.length+1) pc2):=HB9.out.cell 1;have u2:w9.cell? ⟨qn,2,none⟩=some (.slice la2 t2.li.length lc2):=HB9.out.cell 2;have u3:w9.cell? ⟨qn,3,none⟩=some (.slice xa2 t2.cr.length xc2):=HB9.out.cell 3;have u4:w9.cell? ⟨qn,4,none⟩=some (.int .i64 0):=HB9.out.cell 4;have u5:w9.cell? ⟨qn,5,none⟩=some (.bool false):=HB9.out.cell 5;have u6:w9.cell? ⟨bt,1,none⟩=some (.slice (some ⟨jb,joff,none⟩) v.m jc):=cell_keep HL9.out.cm.bel (ltl hbtl hbt) k1;have u7:w9.cell? ⟨b5,0,none⟩=some (.int .i64 (j:Int)):=HL9.out.bj.cell 0;have u8:w9.cell? ⟨jb,joff+j*3+2,none⟩=some (.slice (some ⟨eb,eoff,none⟩) (v.J j).ne ec):=cell_keep HL9.out.cm.bel (ltl hjb hbt) k2;have u9:w9.cell? ⟨eb,eoff+x*2,none⟩=some (.int .i64 (pN:Int)):=cell_keep HL9.out.cm.bel (ltl heb hbt) k3;have u10:w9.cell? ⟨eb,eoff+x*2+1,none⟩=some (.int .i64 sdv):=cell_keep HL9.out.cm.bel (ltl heb hbt) k4))
          all_goals
           clear s0 s1 s2 s3 s4 s5 s6 s7 s8 s9 s10 m0 m1 m2 m3 m4 m5 m6 m7 m8 m9 m10 u0 u1 u2 u3 u4 u5 u6 u7 u8 u9 u10
           cases rb
           ·obtain ⟨q0,hq0,hjx⟩:=HY3.out.2 rfl
            have HJX:Hid (q0 <+: (v.nxt fr f { t with st:=t.st ++ [[(p:Int),way]],pa:=t.pa ++ [partR (v.P p).ln p way far (v.P p).ln] } j q) x∧Jx ((pre ++ (none :: ((exF (v.J j).kd q).take m).flatMap (v.nxt fr f { t with st:=t.st ++ [[(p:Int),way]],pa:=t.pa ++ [partR (v.P p).ln p way far (v.P p).ln] } j q))) ++ q0) w9 D2):=⟨hq0,hjx⟩
            clear hq0 hjx
            go_wp2_with fail
            go_ret
            refine ⟨D2,HL9.out.cm.hd,HL9.out.cm.fr,HL9.out.cm.tl,.inr ⟨rfl,(none :: ((exF (v.J j).kd q).take m).flatMap (v.nxt fr f { t with st:=t.st ++ [[(p:Int),way]],pa:=t.pa ++ [partR (v.P p).ln p way far (v.P p).ln] } j q)) ++ q0,?_,by rw [← List.append_assoc];exact HJX.out.2⟩⟩
            rw [HWK.out]
            have e1:(exF (v.J j).kd q)=(exF (v.J j).kd q).take m ++ x :: (exF (v.J j).kd q).drop (m+1):=by have h:=(List.take_append_drop (m+1) (exF (v.J j).kd q)).symm;rw [HTK.out,List.append_assoc] at h;exact h
            obtain ⟨r0,hr0⟩:=HJX.out.1
            refine ⟨r0 ++ ((exF (v.J j).kd q).drop (m+1)).flatMap (v.nxt fr f { t with st:=t.st ++ [[(p:Int),way]],pa:=t.pa ++ [partR (v.P p).ln p way far (v.P p).ln] } j q),?_⟩
            have e2:(exF (v.J j).kd q).flatMap (v.nxt fr f { t with st:=t.st ++ [[(p:Int),way]],pa:=t.pa ++ [partR (v.P p).ln p way far (v.P p).ln] } j q)=((exF (v.J j).kd q).take m).flatMap (v.nxt fr f { t with st:=t.st ++ [[(p:Int),way]],pa:=t.pa ++ [partR (v.P p).ln p way far (v.P p).ln] } j q) ++ ((v.nxt fr f { t with st:=t.st ++ [[(p:Int),way]],pa:=t.pa ++ [partR (v.P p).ln p way far (v.P p).ln] } j q) x ++ ((exF (v.J j).kd q).drop (m+1)).flatMap (v.nxt fr f { t with st:=t.st ++ [[(p:Int),way]],pa:=t.pa ++ [partR (v.P p).ln p way far (v.P p).ln] } j q)):=by
             conv=>lhs;rw [e1]
             simp
            rw [e2,← hr0]
            simp
           ·have HN3:Hid (LxS n0 wB w D J (pre ++ (none :: ((exF (v.J j).kd q).take (m+1)).flatMap (v.nxt fr f { t with st:=t.st ++ [[(p:Int),way]],pa:=t.pa ++ [partR (v.P p).ln p way far (v.P p).ln] } j q))) D2 t (.slice sa1 t.st.length sc1) (.slice pa1 t.pa.length pc1) (.slice la t.li.length lc) (.slice xa t.cr.length xc) (t.st ++ [[(p:Int),way]]) (t.pa ++ [partR (v.P p).ln p way far (v.P p).ln]) (.slice sa2 (t.st.length+1) sc2) (.slice pa2 (t.pa.length+1) pc2) p way b5 be offe j q (exF (v.J j).kd q) w9):=by show LxS _ _ _ _ _ _ _ _ _ _ _ _ _ _ _ _ _ _ _ _ _ _ _ _ _;rw [HPR.out];exact HL9.out.alt (HY3.out.1 rfl)
            go_wp2_with fail
            go_roundg ((exF (v.J j).kd q).length-(m+1))
            case measure=>omega
            case rel=>exact ⟨m+1,D2,rfl,by omega,by go_num,HN3⟩
       ·obtain rfl:m=(exF (v.J j).kd q).length:=by omega
        rw [List.take_length] at HL
        go_wp2_with fail
        go_ret
        exact ⟨Dm,HL.out.cm.hd,HL.out.cm.fr,HL.out.cm.tl,.inl ⟨rfl,by rw [HWK.out];exact HL.out.cm.j⟩⟩
     ·have H10:Hid (CmS n0 wB w D Jx (pre ++ [none]) D' t (.slice sa1 t.st.length sc1) (.slice pa1 t.pa.length pc1) (.slice la t.li.length lc) (.slice xa t.cr.length xc) (t.st ++ [[(p:Int),way]]) (t.pa ++ [partR (v.P p).ln p way far (v.P p).ln]) (.slice sa2 (t.st.length+1) sc2) (.slice pa2 (t.pa.length+1) pc2) (0) false p way w10):=HC.out.round HJ.out hfr hD hj
      clear hfr hD hj
      gi_wp2
      go_wp2_with fail
      go_ret
      exact ⟨D',H10.out.hd,H10.out.fr,H10.out.tl,.inr ⟨rfl,_,by rw [HWK.out];exact ⟨_,rfl⟩,H10.out.j⟩⟩
end Go.Proofs.YtkhaehpobpkkiaaGreat
