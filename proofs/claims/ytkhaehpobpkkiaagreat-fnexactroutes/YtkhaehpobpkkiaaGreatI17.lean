import Derived.Deep.RegionHeld3
import Derived.Deep.RegionLaw
import Derived.Deep.CutBlock
import Derived.RangeFuncNested
import Derived.TacticsInMore
import Derived.OwnWalkIn
import Derived.Test.YtkhaehpobpkkiaaGreatIe
import Derived.Test.YtkhaehpobpkkiaaGreatNc
namespace Go.Proofs.YtkhaehpobpkkiaaGreat
open Go.RowKit
attribute [local go_sem] Oper.semAt_some
set_option maxRecDepth 100000 in
set_option maxHeartbeats 16000000 in
theorem comeA {v:Ev}(ok:v.Ok){n0:Nat}{wB:World}{bt l:Nat}{fr:Int}{J Jx:Jt'}{pa:Option Addr}{pc:Nat}{ja:Option Addr}{jc:Nat}{sa:Option Addr}{sc:Nat}(hT:TkAt wB bt v pa pc ja jc sa sc)(hbt:wB.heap.size≤n0)(hn0:n0≤wB.heap.size)(hJ:JOk n0 J)(hY:Yd v n0 wB l fr J Jx)(f:Nat)(pre:List (Option RtM))(w:World)(D:Nat→Prop)(t:Tl)(sv pv lv xv:Value)(p:Nat)(way far:Int)(hj:J pre w D)(hb:Below n0 wB w)(ht:TlIn n0 w t sv lv xv pv)(hd:∀ k,D k→¬TrB sv pv lv xv k)(hok:TlOk v t)(hlk:LieK t.li)(hp:p<v.n)(hw:way=1∨way=-1)(hf0:0≤far)(hf1:far<(v.P p).ln)(b:Nat)(hnx:nextS (v.P p).ln v.S p way far v.k=some b):
 Calls Tryz.prog 67 #[.pointer (some ⟨bt,0,none⟩),.agg #[sv,pv,lv,xv,.int .i64 0,.bool false],.agg #[.int .i64 (p:Int),.int .i64 way],.int .i64 far,.func (.yield l) #[] #[]] w (CmP n0 J Jx (v.walk fr (f+1) t p way far) pre w D t sv pv lv xv):=by
 have hst:=hok.st.len
 have hn1:=ok.n1
 have OK:Hid v.Ok:=ok
 have HT:Hid (TkAt wB bt v pa pc ja jc sa sc):=hT
 have HJ:Hid (JOk n0 J):=hJ
 have HY:Hid (Yd v n0 wB l fr J Jx):=hY
 have HOK:Hid (TlOk v t∧LieK t.li):=⟨hok,hlk⟩
 have hll:=hok.ll
 have hpl:=hok.pl
 have hcl:=hok.cl
 obtain ⟨sa1,sc1,hv⟩:=ht.s.val
 subst hv
 obtain ⟨pa1,pc1,hv⟩:=ht.q.val
 subst hv
 obtain ⟨la,lc,hv⟩:=ht.l.val
 subst hv
 obtain ⟨xa,xc,hv⟩:=ht.x.val
 subst hv
 have HW0:Hid (CmS n0 wB w D J (pre) D t (.slice sa1 t.st.length sc1) (.slice pa1 t.pa.length pc1) (.slice la t.li.length lc) (.slice xa t.cr.length xc) (t.st) (t.pa) (.slice sa1 t.st.length sc1) (.slice pa1 t.pa.length pc1) 0 false p way ((w.alloc (.cells #[.slice sa1 t.st.length sc1,.slice pa1 t.pa.length pc1,.slice la t.li.length lc,.slice xa t.cr.length xc,.int .i64 0,.bool false] 78)).alloc (.cells #[.int .i64 (p:Int),.int .i64 way] 100))):=CmS.start hJ (Nat.le_trans hn0 hb.size) hj hb ht hd
 obtain ⟨i1,e11,e12,e13,e14⟩:=info_parts infoStep
 obtain ⟨i4,e41,e42,e43,e44⟩:=info_parts infoPart
 clear hT hJ hY hok hlk hj hb ht hd ok
 go_enter Tryz.func67,Tryz.ntmps67
 go_wp2_with fail
 generalize ((w.alloc (.cells #[.slice sa1 t.st.length sc1,.slice pa1 t.pa.length pc1,.slice la t.li.length lc,.slice xa t.cr.length xc,.int .i64 0,.bool false] 78)).alloc (.cells #[.int .i64 (p:Int),.int .i64 way] 100))=w0 at HW0 ⊢
 refine (contains94 _ t.st p way _ (by omega) (HW0.out.tl.s.ls.mono zl (Below.refl w0.heap.size w0) lr)).mono ?_
 rintro e w1 ⟨rfl,hb1⟩
 have HW1:Hid (CmS n0 wB w D J (pre) D t (.slice sa1 t.st.length sc1) (.slice pa1 t.pa.length pc1) (.slice la t.li.length lc) (.slice xa t.cr.length xc) (t.st) (t.pa) (.slice sa1 t.st.length sc1) (.slice pa1 t.pa.length pc1) 0 false p way w1):=HW0.out.mono HJ.out hb1
 clear HW0 hb1
 have x0:w1.cell? ⟨w.heap.size,0,none⟩=some (.slice sa1 t.st.length sc1):=HW1.out.bx.cell 0
 have x1:w1.cell? ⟨w.heap.size,1,none⟩=some (.slice pa1 t.pa.length pc1):=HW1.out.bx.cell 1
 have x2:w1.cell? ⟨w.heap.size,2,none⟩=some (.slice la t.li.length lc):=HW1.out.bx.cell 2
 have x3:w1.cell? ⟨w.heap.size,3,none⟩=some (.slice xa t.cr.length xc):=HW1.out.bx.cell 3
 have x4:w1.cell? ⟨w.heap.size,4,none⟩=some (.int .i64 0):=HW1.out.bx.cell 4
 have x5:w1.cell? ⟨w.heap.size,5,none⟩=some (.bool false):=HW1.out.bx.cell 5
 have y0:w1.cell? ⟨w.heap.size+1,0,none⟩=some (.int .i64 (p:Int)):=HW1.out.bs.cell 0
 have y1:w1.cell? ⟨w.heap.size+1,1,none⟩=some (.int .i64 way):=HW1.out.bs.cell 1
 have z1:=HW1.out.bx.lt
 have z2:=HW1.out.bs.lt
 have zn:=Nat.le_trans HW1.out.nz HW1.out.fr.size
 go_wp2_with (at_builtin;go_must (refine wpList_appH _ rfl (.tmp 24) (.tmp 26) 58 rfl n0 100 i1 _ 2 16 Tryz.underlying58 e11 e12 e13 e14 rfl (by decide) _ t.st rfl (HW1.out.tl.s.alloc _) ⟨w1.heap.size,0,none⟩ 1 1 [[(p:Int),way]] rfl rfl (by decide) (Wide.one rfl) (news_at [(p:Int),way] rfl) (by simp [maxLen];omega) (by omega) (by simp;omega) ?_))
 refine Halt.mk fun v2 w2 ho2 hs2 ha2=>?_
 obtain ⟨sa2,sc2,rfl⟩:=ho2.val
 rw [List.length_append] at ho2 ha2 ⊢
 have HW2:Hid (CmS n0 wB w D J (pre) D t (.slice sa1 t.st.length sc1) (.slice pa1 t.pa.length pc1) (.slice la t.li.length lc) (.slice xa t.cr.length xc) (t.st ++ [[(p:Int),way]]) (t.pa) (.slice sa2 (t.st.length+1) sc2) (.slice pa1 t.pa.length pc1) 0 false p way (w2.setCell ⟨w.heap.size,0,none⟩ (.slice sa2 (t.st.length+1) sc2))):=(HW1.out.mono HJ.out (bel1 w1 _)).steps HJ.out ha2 ho2 hs2
 have hbq:=((HW1.out.mono HJ.out (bel1 w1 (.cells #[.int .i64 (p:Int),.int .i64 way] 100))).bx).grown ha2.fr (fun e=>(HW1.out.mono HJ.out (bel1 w1 (.cells #[.int .i64 (p:Int),.int .i64 way] 100))).tl.s.off (HW1.out.mono HJ.out (bel1 w1 (.cells #[.int .i64 (p:Int),.int .i64 way] 100))).bx (by decide) e rfl)
 have q0:w2.cell? ⟨w.heap.size,0,none⟩=some (.slice sa1 t.st.length sc1):=hbq.cell 0
 have g0:=hbq.free 0
 have u0:(w2.setCell ⟨w.heap.size,0,none⟩ (.slice sa2 (t.st.length+1) sc2)).cell? ⟨w.heap.size+1,0,none⟩=some (.int .i64 (p:Int)):=HW2.out.bs.cell 0
 have u1:(w2.setCell ⟨w.heap.size,0,none⟩ (.slice sa2 (t.st.length+1) sc2)).cell? ⟨w.heap.size+1,1,none⟩=some (.int .i64 way):=HW2.out.bs.cell 1
 clear hbq ho2 hs2 ha2 HW1 x0 x1 x2 x3 x4 x5 y0 y1 z1 z2 zn
 go_wp2_with fail
 clear q0 g0 u0 u1
 generalize (w2.setCell ⟨w.heap.size,0,none⟩ (.slice sa2 (t.st.length+1) sc2))=w3 at HW2 ⊢
 refine (next95 OK.out p way far _ (HT.out.mono HW2.out.bel hbt) hp hw).mono ?_
 rintro e w4 ⟨rfl,hb4⟩
 have HW4:Hid (CmS n0 wB w D J (pre) D t (.slice sa1 t.st.length sc1) (.slice pa1 t.pa.length pc1) (.slice la t.li.length lc) (.slice xa t.cr.length xc) (t.st ++ [[(p:Int),way]]) (t.pa) (.slice sa2 (t.st.length+1) sc2) (.slice pa1 t.pa.length pc1) 0 false p way w4):=HW2.out.mono HJ.out hb4
 clear HW2 hb4
 rw [hnx,show bestV (some b)=(b:Int) from rfl]
 go_wp2_with fail
 have hbk:b<v.k:=nextS_lt hnx
 obtain ⟨ns1,ns2,ns3⟩:=nextS_spec hnx
 obtain ⟨g1,g2,g3,g4,g5⟩:=OK.out.sg b hbk
 have hlnp:=OK.out.ln p hp
 have hsp:0≤(v.S b).sp∧(v.S b).sp≤10000000:=by rw [ns1,Int.toNat_natCast] at g5;omega
 have hen:0≤farI (v.P p).ln (v.S b).sp way∧farI (v.P p).ln (v.S b).sp way≤10000000:=by rw [ns1,Int.toNat_natCast] at g5;unfold farI;split <;> omega
 have HWK:Hid (v.walk fr (f+1) t p way far=[some (v.fin fr b { t with st:=t.st ++ [[(p:Int),way]],pa:=t.pa ++ [partR (v.P p).ln p way far (farI (v.P p).ln (v.S b).sp way)] } (ovOf v (b:Int)))]):=by
  show v.walk fr (f+1) t p way far=_
  simp only [Ev.walk,hnx]
  unfold ovOf
  rw [if_pos (by omega),Int.toNat_natCast,ns1,ns2,Int.toNat_natCast]
 clear hnx ns1 ns2 ns3
 obtain ⟨bs,offs,rfl,_,hbs,hcs⟩:=HT.out.net.s (by omega)
 obtain ⟨_,_,hsb,_⟩:=hcs b hbk
 have hb0:(0:Int)≤(b:Int):=by omega
 have hb1:(b:Int)<(v.k:Int):=by omega
 clear g1 g2 g3 g4 g5 hcs
 go_cut [] from 19 (fun wx=>∃ pa2 pc2,Hid (CmS n0 wB w D J (pre) D t (.slice sa1 t.st.length sc1) (.slice pa1 t.pa.length pc1) (.slice la t.li.length lc) (.slice xa t.cr.length xc) (t.st ++ [[(p:Int),way]]) (t.pa ++ [partR (v.P p).ln p way far (farI (v.P p).ln (v.S b).sp way)]) (.slice sa2 (t.st.length+1) sc2) (.slice pa2 (t.pa.length+1) pc2) 0 false p way wx))
 case first=>
  have HW4d:Hid (CmS n0 wB w D J (pre) D t (.slice sa1 t.st.length sc1) (.slice pa1 t.pa.length pc1) (.slice la t.li.length lc) (.slice xa t.cr.length xc) (t.st ++ [[(p:Int),way]]) (t.pa) (.slice sa2 (t.st.length+1) sc2) (.slice pa1 t.pa.length pc1) 0 false p way w4.drew):=HW4.out.mono HJ.out (Below.refl _ _).drew
  have c00:w4.drew.cell? ⟨w.heap.size+1,0,none⟩=some (.int .i64 (p:Int)):=HW4d.out.bs.cell 0
  have c01:w4.drew.cell? ⟨w.heap.size+1,1,none⟩=some (.int .i64 way):=HW4d.out.bs.cell 1
  have c02:w4.drew.cell? ⟨bt,2,none⟩=some (.slice (some ⟨bs,offs,none⟩) v.k sc):=(HT.out.mono HW4d.out.bel hbt).s
  have c03:w4.drew.cell? ⟨bs,offs+b*4+2,none⟩=some (.int .i64 (v.S b).sp):=(cell_keep HW4d.out.bel (ltl hbs hbt) hsb)
  have x0p:w4.drew.cell? ⟨w.heap.size,1,none⟩=some (.slice pa1 t.pa.length pc1):=HW4d.out.bx.cell 1
  refine wp_region_held_drew (S:=(fun w'=>w'.cell? ⟨w.heap.size+1,0,none⟩=some (.int .i64 (p:Int))∧w'.cell? ⟨w.heap.size+1,1,none⟩=some (.int .i64 way)∧w'.cell? ⟨bt,2,none⟩=some (.slice (some ⟨bs,offs,none⟩) v.k sc)∧w'.cell? ⟨bs,offs+b*4+2,none⟩=some (.int .i64 (v.S b).sp))) (by kernel_rfl) ⟨c00,c01,c02,c03⟩ (fun hHeld=>?_)
  refine wpAnyH_take (i:=0) (oi:={ dst:=some 35,op:=Op.fieldAddr 78 (Operand.tmp 6) 1,type:=0,pos:= "l2_route.go:182",after:=#[],guard:=none }) (v:=.pointer (some ⟨w.heap.size,1,none⟩)) rfl (by kernel_rfl) (by kernel_rfl) (by kernel_rfl) (fun _ _ _ h=>h) (Or.inl ⟨by rfl,?_⟩) (by assumption) ?_
  ·(intro w hSw;(try dsimp only at hSw);go_simp)
  try simp only [Act.put,List.setIfInBounds_toArray,List.set_cons_zero,List.set_cons_succ]
  refine wpAnyH_take (i:=2) (oi:={ dst:=some 37,op:=Op.move (Operand.tmp 0),type:=72,pos:= "l2_route.go:182",after:=#[],guard:=none }) (v:=.pointer (some ⟨bt,0,none⟩)) rfl (by kernel_rfl) (by kernel_rfl) (by kernel_rfl) (fun _ _ _ h=>h) (Or.inl ⟨by rfl,?_⟩) (by assumption) ?_
  ·(intro w hSw;(try dsimp only at hSw);go_simp)
  try simp only [Act.put,List.setIfInBounds_toArray,List.set_cons_zero,List.set_cons_succ]
  refine wpAnyH_take (i:=3) (oi:={ dst:=some 38,op:=Op.load 100 (Operand.tmp 7),type:=100,pos:= "l2_route.go:182",after:=#[],guard:=none }) (v:=.agg #[.int .i64 (p:Int),.int .i64 way]) rfl (by kernel_rfl) (by kernel_rfl) (by kernel_rfl) (fun _ _ _ h=>h) (Or.inl ⟨by rfl,?_⟩) (by assumption) ?_
  ·(intro w hSw;(try dsimp only at hSw);go_simp)
  try simp only [Act.put,List.setIfInBounds_toArray,List.set_cons_zero,List.set_cons_succ]
  refine wpAnyH_take (i:=4) (oi:={ dst:=some 39,op:=Op.move (Operand.tmp 3),type:=3,pos:= "l2_route.go:182",after:=#[],guard:=none }) (v:=.int .i64 far) rfl (by kernel_rfl) (by kernel_rfl) (by kernel_rfl) (fun _ _ _ h=>h) (Or.inl ⟨by rfl,?_⟩) (by assumption) ?_
  ·(intro w hSw;(try dsimp only at hSw);go_simp)
  try simp only [Act.put,List.setIfInBounds_toArray,List.set_cons_zero,List.set_cons_succ]
  refine wpAnyH_take (i:=5) (oi:={ dst:=some 40,op:=Op.move (Operand.tmp 0),type:=72,pos:= "l2_route.go:182",after:=#[],guard:=none }) (v:=.pointer (some ⟨bt,0,none⟩)) rfl (by kernel_rfl) (by kernel_rfl) (by kernel_rfl) (fun _ _ _ h=>h) (Or.inl ⟨by rfl,?_⟩) (by assumption) ?_
  ·(intro w hSw;(try dsimp only at hSw);go_simp)
  try simp only [Act.put,List.setIfInBounds_toArray,List.set_cons_zero,List.set_cons_succ]
  refine wpAnyH_take (i:=6) (oi:={ dst:=some 41,op:=Op.load 100 (Operand.tmp 7),type:=100,pos:= "l2_route.go:182",after:=#[],guard:=none }) (v:=.agg #[.int .i64 (p:Int),.int .i64 way]) rfl (by kernel_rfl) (by kernel_rfl) (by kernel_rfl) (fun _ _ _ h=>h) (Or.inl ⟨by rfl,?_⟩) (by assumption) ?_
  ·(intro w hSw;(try dsimp only at hSw);go_simp)
  try simp only [Act.put,List.setIfInBounds_toArray,List.set_cons_zero,List.set_cons_succ]
  refine wpAnyH_take (i:=7) (oi:={ dst:=some 42,op:=Op.move (Operand.tmp 0),type:=72,pos:= "l2_route.go:182",after:=#[],guard:=none }) (v:=.pointer (some ⟨bt,0,none⟩)) rfl (by kernel_rfl) (by kernel_rfl) (by kernel_rfl) (fun _ _ _ h=>h) (Or.inl ⟨by rfl,?_⟩) (by assumption) ?_
  ·(intro w hSw;(try dsimp only at hSw);go_simp)
  try simp only [Act.put,List.setIfInBounds_toArray,List.set_cons_zero,List.set_cons_succ]
  refine wpAnyH_take (i:=8) (oi:={ dst:=some 43,op:=Op.nilCheck (Operand.tmp 42),type:=0,pos:= "l2_route.go:182",after:=#[{ on:=7,ground:=Ground.data }],guard:=none }) (v:=.pointer (some ⟨bt,0,none⟩)) rfl (by kernel_rfl) (by kernel_rfl) (by kernel_rfl) (fun _ _ _ h=>h) (Or.inl ⟨by rfl,?_⟩) (by assumption) ?_
  ·(intro w hSw;(try dsimp only at hSw);go_simp)
  try simp only [Act.put,List.setIfInBounds_toArray,List.set_cons_zero,List.set_cons_succ]
  refine wpAnyH_take (i:=9) (oi:={ dst:=some 44,op:=Op.fieldAddr 126 (Operand.tmp 43) 1,type:=0,pos:= "l2_route.go:182",after:=#[{ on:=8,ground:=Ground.data }],guard:=none }) (v:=.pointer (some ⟨bt,2,none⟩)) rfl (by kernel_rfl) (by kernel_rfl) (by kernel_rfl) (fun _ _ _ h=>h) (Or.inl ⟨by rfl,?_⟩) (by assumption) ?_
  ·(intro w hSw;(try dsimp only at hSw);go_simp)
  try simp only [Act.put,List.setIfInBounds_toArray,List.set_cons_zero,List.set_cons_succ]
  refine wpAnyH_take (i:=10) (oi:={ dst:=some 45,op:=Op.load 36 (Operand.tmp 44),type:=36,pos:= "l2_route.go:182",after:=#[{ on:=9,ground:=Ground.data }],guard:=none }) (v:=.slice (some ⟨bs,offs,none⟩) v.k sc) rfl (by kernel_rfl) (by kernel_rfl) (by kernel_rfl) (fun _ _ _ h=>h) (Or.inl ⟨by rfl,?_⟩) (by assumption) ?_
  ·(intro w hSw;(try dsimp only at hSw);go_simp)
  try simp only [Act.put,List.setIfInBounds_toArray,List.set_cons_zero,List.set_cons_succ]
  refine wpAnyH_take (i:=11) (oi:={ dst:=some 46,op:=Op.move (Operand.tmp 12),type:=3,pos:= "l2_route.go:182",after:=#[],guard:=none }) (v:=.int .i64 (b:Int)) rfl (by kernel_rfl) (by kernel_rfl) (by kernel_rfl) (fun _ _ _ h=>h) (Or.inl ⟨by rfl,?_⟩) (by assumption) ?_
  ·(intro w hSw;(try dsimp only at hSw);go_simp)
  try simp only [Act.put,List.setIfInBounds_toArray,List.set_cons_zero,List.set_cons_succ]
  refine wpAnyH_take (i:=12) (oi:={ dst:=some 47,op:=Op.indexAddr 36 (Operand.tmp 45) (Operand.tmp 46),type:=0,pos:= "l2_route.go:182",after:=#[{ on:=10,ground:=Ground.data },{ on:=11,ground:=Ground.data }],guard:=none }) (v:=.pointer (some ⟨bs,offs+b*4,none⟩)) rfl (by kernel_rfl) (by kernel_rfl) (by kernel_rfl) (fun _ _ _ h=>h) (Or.inl ⟨by rfl,?_⟩) (by assumption) ?_
  ·(intro w hSw;(try dsimp only at hSw);go_simp)
  try simp only [Act.put,List.setIfInBounds_toArray,List.set_cons_zero,List.set_cons_succ]
  refine wpAnyH_take (i:=13) (oi:={ dst:=some 48,op:=Op.fieldAddr 56 (Operand.tmp 47) 2,type:=0,pos:= "l2_route.go:182",after:=#[{ on:=12,ground:=Ground.data }],guard:=none }) (v:=.pointer (some ⟨bs,offs+b*4+2,none⟩)) rfl (by kernel_rfl) (by kernel_rfl) (by kernel_rfl) (fun _ _ _ h=>h) (Or.inl ⟨by rfl,?_⟩) (by assumption) ?_
  ·(intro w hSw;(try dsimp only at hSw);go_simp)
  try simp only [Act.put,List.setIfInBounds_toArray,List.set_cons_zero,List.set_cons_succ]
  refine wpAnyH_take (i:=14) (oi:={ dst:=some 49,op:=Op.load 3 (Operand.tmp 48),type:=3,pos:= "l2_route.go:182",after:=#[{ on:=13,ground:=Ground.data }],guard:=none }) (v:=.int .i64 (v.S b).sp) rfl (by kernel_rfl) (by kernel_rfl) (by kernel_rfl) (fun _ _ _ h=>h) (Or.inl ⟨by rfl,?_⟩) (by assumption) ?_
  ·(intro w hSw;(try dsimp only at hSw);go_simp)
  try simp only [Act.put,List.setIfInBounds_toArray,List.set_cons_zero,List.set_cons_succ]
  refine wpAnyH_ready (rs:=[1,15]) (by kernel_rfl) (by simp) ?_
  refine AllReadyH.cons (o:={ dst:=some 36,op:=Op.load 61 (Operand.tmp 35),type:=61,pos:= "l2_route.go:182",after:=#[{ on:=0,ground:=Ground.data }],guard:=none }) rfl (fun KK hKK=>?_) ?_
  ·go_simp
   refine hKK.out _ _ ?_ (fun hHeld=>?_)
   ·exact ⟨c00,c01,c02,c03⟩
   clear hKK KK
   try simp only [Act.put,List.setIfInBounds_toArray,List.set_cons_zero,List.set_cons_succ]
   refine wpAnyH_ready (rs:=[15]) (by kernel_rfl) (by simp) ?_
   refine AllReadyH.cons (o:={ dst:=some 50,op:=Op.call { callee:=Callee.value (Operand.func 68),args:=#[Operand.tmp 40,Operand.tmp 41,Operand.tmp 49],argTypes:=#[72,100,3] },type:=3,pos:= "l2_route.go:182",after:=#[{ on:=5,ground:=Ground.data },{ on:=6,ground:=Ground.data },{ on:=14,ground:=Ground.data }],guard:=none }) rfl (fun KK hKK=>?_) ?_
   ·go_simp
    refine (along68 OK.out p way (v.S b).sp _ (HT.out.mono HW4d.out.bel hbt) hp hsp).mono ?_
    rintro e w5 ⟨rfl,hb0⟩
    have HW5:Hid (CmS n0 wB w D J (pre) D t (.slice sa1 t.st.length sc1) (.slice pa1 t.pa.length pc1) (.slice la t.li.length lc) (.slice xa t.cr.length xc) (t.st ++ [[(p:Int),way]]) (t.pa) (.slice sa2 (t.st.length+1) sc2) (.slice pa1 t.pa.length pc1) 0 false p way w5):=HW4d.out.mono HJ.out hb0
    clear hb0
    have c10:w5.cell? ⟨w.heap.size+1,0,none⟩=some (.int .i64 (p:Int)):=HW5.out.bs.cell 0
    have c11:w5.cell? ⟨w.heap.size+1,1,none⟩=some (.int .i64 way):=HW5.out.bs.cell 1
    have c12:w5.cell? ⟨bt,2,none⟩=some (.slice (some ⟨bs,offs,none⟩) v.k sc):=(HT.out.mono HW5.out.bel hbt).s
    have c13:w5.cell? ⟨bs,offs+b*4+2,none⟩=some (.int .i64 (v.S b).sp):=(cell_keep HW5.out.bel (ltl hbs hbt) hsb)
    have x1p:w5.cell? ⟨w.heap.size,1,none⟩=some (.slice pa1 t.pa.length pc1):=HW5.out.bx.cell 1
    go_wp2_with fail
    refine hKK.out _ _ ?_ (fun hHeld=>?_)
    ·exact ⟨c10,c11,c12,c13⟩
    clear hKK KK
    try simp only [Act.put,List.setIfInBounds_toArray,List.set_cons_zero,List.set_cons_succ]
    refine wpAnyH_ready (rs:=[16]) (by kernel_rfl) (by simp) ?_
    refine AllReadyH.cons (o:={ dst:=some 51,op:=Op.call { callee:=Callee.value (Operand.func 96),args:=#[Operand.tmp 37,Operand.tmp 38,Operand.tmp 39,Operand.tmp 50],argTypes:=#[72,100,3,3] },type:=104,pos:= "l2_route.go:182",after:=#[{ on:=2,ground:=Ground.data },{ on:=3,ground:=Ground.data },{ on:=4,ground:=Ground.data },{ on:=15,ground:=Ground.data },{ on:=15,ground:=Ground.chain }],guard:=none }) rfl (fun KK hKK=>?_) ?_
    ·go_simp
     refine (part96 OK.out p way far (farI (v.P p).ln (v.S b).sp way) _ (HT.out.mono HW5.out.bel hbt) hp hw ⟨hf0,by omega⟩ hen).mono ?_
     rintro e w6 ⟨rfl,hb1⟩
     have HW6:Hid (CmS n0 wB w D J (pre) D t (.slice sa1 t.st.length sc1) (.slice pa1 t.pa.length pc1) (.slice la t.li.length lc) (.slice xa t.cr.length xc) (t.st ++ [[(p:Int),way]]) (t.pa) (.slice sa2 (t.st.length+1) sc2) (.slice pa1 t.pa.length pc1) 0 false p way w6):=HW5.out.mono HJ.out hb1
     clear hb1
     have c20:w6.cell? ⟨w.heap.size+1,0,none⟩=some (.int .i64 (p:Int)):=HW6.out.bs.cell 0
     have c21:w6.cell? ⟨w.heap.size+1,1,none⟩=some (.int .i64 way):=HW6.out.bs.cell 1
     have c22:w6.cell? ⟨bt,2,none⟩=some (.slice (some ⟨bs,offs,none⟩) v.k sc):=(HT.out.mono HW6.out.bel hbt).s
     have c23:w6.cell? ⟨bs,offs+b*4+2,none⟩=some (.int .i64 (v.S b).sp):=(cell_keep HW6.out.bel (ltl hbs hbt) hsb)
     have x2p:w6.cell? ⟨w.heap.size,1,none⟩=some (.slice pa1 t.pa.length pc1):=HW6.out.bx.cell 1
     go_wp2_with fail
     refine hKK.out _ _ ?_ (fun hHeld=>?_)
     ·exact ⟨c20,c21,c22,c23⟩
     clear hKK KK
     try simp only [Act.put,List.setIfInBounds_toArray,List.set_cons_zero,List.set_cons_succ]
     refine wpAnyH_ready (rs:=[17]) (by kernel_rfl) (by simp) ?_
     refine AllReadyH.cons (o:={ dst:=some 52,op:=Op.buildSlice 61 1 #[(0,Operand.tmp 51)],type:=61,pos:= "l2_route.go:182",after:=#[{ on:=16,ground:=Ground.data }],guard:=none }) rfl (fun KK hKK=>?_) ?_
     ·have HW6a:Hid (CmS n0 wB w D J (pre) D t (.slice sa1 t.st.length sc1) (.slice pa1 t.pa.length pc1) (.slice la t.li.length lc) (.slice xa t.cr.length xc) (t.st ++ [[(p:Int),way]]) (t.pa) (.slice sa2 (t.st.length+1) sc2) (.slice pa1 t.pa.length pc1) 0 false p way (w6.alloc (.cells #[.int .i64 (p:Int),.int .i64 (partF (v.P p).ln way far (farI (v.P p).ln (v.S b).sp way)).1,.int .i64 (partF (v.P p).ln way far (farI (v.P p).ln (v.S b).sp way)).2] 104))):=HW6.out.mono HJ.out (bel1 w6 _)
      have c30:(w6.alloc (.cells #[.int .i64 (p:Int),.int .i64 (partF (v.P p).ln way far (farI (v.P p).ln (v.S b).sp way)).1,.int .i64 (partF (v.P p).ln way far (farI (v.P p).ln (v.S b).sp way)).2] 104)).cell? ⟨w.heap.size+1,0,none⟩=some (.int .i64 (p:Int)):=HW6a.out.bs.cell 0
      have c31:(w6.alloc (.cells #[.int .i64 (p:Int),.int .i64 (partF (v.P p).ln way far (farI (v.P p).ln (v.S b).sp way)).1,.int .i64 (partF (v.P p).ln way far (farI (v.P p).ln (v.S b).sp way)).2] 104)).cell? ⟨w.heap.size+1,1,none⟩=some (.int .i64 way):=HW6a.out.bs.cell 1
      have c32:(w6.alloc (.cells #[.int .i64 (p:Int),.int .i64 (partF (v.P p).ln way far (farI (v.P p).ln (v.S b).sp way)).1,.int .i64 (partF (v.P p).ln way far (farI (v.P p).ln (v.S b).sp way)).2] 104)).cell? ⟨bt,2,none⟩=some (.slice (some ⟨bs,offs,none⟩) v.k sc):=(HT.out.mono HW6a.out.bel hbt).s
      have c33:(w6.alloc (.cells #[.int .i64 (p:Int),.int .i64 (partF (v.P p).ln way far (farI (v.P p).ln (v.S b).sp way)).1,.int .i64 (partF (v.P p).ln way far (farI (v.P p).ln (v.S b).sp way)).2] 104)).cell? ⟨bs,offs+b*4+2,none⟩=some (.int .i64 (v.S b).sp):=(cell_keep HW6a.out.bel (ltl hbs hbt) hsb)
      have x3p:(w6.alloc (.cells #[.int .i64 (p:Int),.int .i64 (partF (v.P p).ln way far (farI (v.P p).ln (v.S b).sp way)).1,.int .i64 (partF (v.P p).ln way far (farI (v.P p).ln (v.S b).sp way)).2] 104)).cell? ⟨w.heap.size,1,none⟩=some (.slice pa1 t.pa.length pc1):=HW6a.out.bx.cell 1
      go_simp
      refine hKK.out _ _ ?_ (fun hHeld=>?_)
      ·exact ⟨c30,c31,c32,c33⟩
      clear hKK KK
      try simp only [Act.put,List.setIfInBounds_toArray,List.set_cons_zero,List.set_cons_succ]
      refine wpAnyH_ready (rs:=[18]) (by kernel_rfl) (by simp) ?_
      refine AllReadyH.cons (o:={ dst:=some 53,op:=Op.call { callee:=Callee.builtin Builtin.append,args:=#[Operand.tmp 36,Operand.tmp 52],argTypes:=#[61,61] },type:=61,pos:= "l2_route.go:182",after:=#[{ on:=1,ground:=Ground.data },{ on:=17,ground:=Ground.data },{ on:=16,ground:=Ground.chain }],guard:=none }) rfl (fun KK hKK=>?_) ?_
      ·refine step_app rfl (.tmp 36) (.tmp 52) 61 rfl n0 104 i4 (.agg #[.int .i64 0,.int .i64 0,.int .i64 0]) 3 24 Tryz.underlying61 e41 e42 e43 e44 rfl (by decide) (.slice pa1 t.pa.length pc1) t.pa (by simp [Act.eval]) HW6a.out.tl.q ⟨w6.heap.size,0,none⟩ 1 1 [partR (v.P p).ln p way far (farI (v.P p).ln (v.S b).sp way)] (by simp [Act.eval]) rfl (by decide) (Wide.one rfl) (news_at (partR (v.P p).ln p way far (farI (v.P p).ln (v.S b).sp way)) rfl) (by simp [maxLen];omega) (by omega) (Nat.le_trans HW6a.out.nz HW6a.out.fr.size) ?_
       intro v7 w7 ho7 hs7 ha7
       obtain ⟨pa2,pc2,rfl⟩:=ho7.val
       rw [List.length_append] at ho7 ha7
       have HW8:Hid (CmS n0 wB w D J (pre) D t (.slice sa1 t.st.length sc1) (.slice pa1 t.pa.length pc1) (.slice la t.li.length lc) (.slice xa t.cr.length xc) (t.st ++ [[(p:Int),way]]) (t.pa ++ [partR (v.P p).ln p way far (farI (v.P p).ln (v.S b).sp way)]) (.slice sa2 (t.st.length+1) sc2) (.slice pa2 (t.pa.length+1) pc2) 0 false p way (w7.setCell ⟨w.heap.size,1,none⟩ (.slice pa2 (t.pa.length+1) pc2))):=HW6a.out.parts HJ.out ha7 ho7 hs7
       have hb7:=HW6a.out.bx.grown ha7.fr (fun e=>HW6a.out.tl.q.off HW6a.out.bx (by decide) e rfl)
       have x7p:w7.cell? ⟨w.heap.size,1,none⟩=some (.slice pa1 t.pa.length pc1):=hb7.cell 1
       have g7:=hb7.free 1
       have hs7b:=HW6a.out.bs.grown ha7.fr (fun e=>HW6a.out.tl.q.off HW6a.out.bs (by decide) e rfl)
       have c70:w7.cell? ⟨w.heap.size+1,0,none⟩=some (.int .i64 (p:Int)):=hs7b.cell 0
       have c71:w7.cell? ⟨w.heap.size+1,1,none⟩=some (.int .i64 way):=hs7b.cell 1
       have hbl7:Below n0 wB w7:=HW6a.out.bel.grown ha7.fr (Nat.le_trans HW6a.out.nz HW6a.out.fr.size) (fun k e=>(HW6a.out.tl.q.lt e).1)
       have c72:w7.cell? ⟨bt,2,none⟩=some (.slice (some ⟨bs,offs,none⟩) v.k sc):=(HT.out.mono hbl7 hbt).s
       have c73:w7.cell? ⟨bs,offs+b*4+2,none⟩=some (.int .i64 (v.S b).sp):=(cell_keep hbl7 (ltl hbs hbt) hsb)
       refine hKK.out _ _ ?_ (fun hHeld=>?_)
       ·exact ⟨c70,c71,c72,c73⟩
       clear hKK KK
       try simp only [Act.put,List.setIfInBounds_toArray,List.set_cons_zero,List.set_cons_succ]
       refine wpAnyH_take (i:=19) (oi:={ dst:=some 54,op:=Op.fieldAddr 78 (Operand.tmp 6) 1,type:=0,pos:= "l2_route.go:182",after:=#[{ on:=0,ground:=Ground.phase },{ on:=1,ground:=Ground.phase },{ on:=2,ground:=Ground.phase },{ on:=3,ground:=Ground.phase },{ on:=4,ground:=Ground.phase },{ on:=5,ground:=Ground.phase },{ on:=6,ground:=Ground.phase },{ on:=7,ground:=Ground.phase },{ on:=8,ground:=Ground.phase },{ on:=9,ground:=Ground.phase },{ on:=10,ground:=Ground.phase },{ on:=11,ground:=Ground.phase },{ on:=12,ground:=Ground.phase },{ on:=13,ground:=Ground.phase },{ on:=14,ground:=Ground.phase },{ on:=15,ground:=Ground.phase },{ on:=16,ground:=Ground.phase },{ on:=17,ground:=Ground.phase },{ on:=18,ground:=Ground.phase }],guard:=none }) (v:=.pointer (some ⟨w.heap.size,1,none⟩)) rfl (by kernel_rfl) (by kernel_rfl) (by kernel_rfl) (fun _ _ _ h=>h) (Or.inl ⟨by rfl,?_⟩) (by assumption) ?_
       ·(intro w hSw;(try dsimp only at hSw);go_simp)
       try simp only [Act.put,List.setIfInBounds_toArray,List.set_cons_zero,List.set_cons_succ]
       refine wpAnyH_ready (rs:=[20]) (by kernel_rfl) (by simp) ?_
       refine AllReadyH.cons (o:={ dst:=none,op:=Op.store 61 (Operand.tmp 54) (Operand.tmp 53),type:=0,pos:= "l2_route.go:182",after:=#[{ on:=19,ground:=Ground.data },{ on:=18,ground:=Ground.data },{ on:=18,ground:=Ground.chain },{ on:=0,ground:=Ground.phase },{ on:=1,ground:=Ground.phase },{ on:=2,ground:=Ground.phase },{ on:=3,ground:=Ground.phase },{ on:=4,ground:=Ground.phase },{ on:=5,ground:=Ground.phase },{ on:=6,ground:=Ground.phase },{ on:=7,ground:=Ground.phase },{ on:=8,ground:=Ground.phase },{ on:=9,ground:=Ground.phase },{ on:=10,ground:=Ground.phase },{ on:=11,ground:=Ground.phase },{ on:=12,ground:=Ground.phase },{ on:=13,ground:=Ground.phase },{ on:=14,ground:=Ground.phase },{ on:=15,ground:=Ground.phase },{ on:=16,ground:=Ground.phase },{ on:=17,ground:=Ground.phase },{ on:=18,ground:=Ground.phase }],guard:=none }) rfl (fun KK hKK=>?_) AllReadyH.nil
       go_simp
       refine hKK.out _ _ ?_ (fun hHeld=>?_)
       ·exact ⟨HW8.out.bs.cell 0,HW8.out.bs.cell 1,(HT.out.mono HW8.out.bel hbt).s,(cell_keep HW8.out.bel (ltl hbs hbt) hsb)⟩
       clear hKK KK
       try simp only [Act.put,List.setIfInBounds_toArray,List.set_cons_zero,List.set_cons_succ]
       refine wpAnyH_done (by kernel_rfl) ?_ _
       go_wp2_with fail
       go_meet
       case rel=>exact ⟨_,_,HW8⟩
      exact AllReadyH.nil
     exact AllReadyH.nil
    exact AllReadyH.nil
   exact AllReadyH.nil
  refine AllReadyH.cons (o:={ dst:=some 50,op:=Op.call { callee:=Callee.value (Operand.func 68),args:=#[Operand.tmp 40,Operand.tmp 41,Operand.tmp 49],argTypes:=#[72,100,3] },type:=3,pos:= "l2_route.go:182",after:=#[{ on:=5,ground:=Ground.data },{ on:=6,ground:=Ground.data },{ on:=14,ground:=Ground.data }],guard:=none }) rfl (fun KK hKK=>?_) ?_
  ·go_simp
   refine (along68 OK.out p way (v.S b).sp _ (HT.out.mono HW4d.out.bel hbt) hp hsp).mono ?_
   rintro e w5 ⟨rfl,hb0⟩
   have HW5:Hid (CmS n0 wB w D J (pre) D t (.slice sa1 t.st.length sc1) (.slice pa1 t.pa.length pc1) (.slice la t.li.length lc) (.slice xa t.cr.length xc) (t.st ++ [[(p:Int),way]]) (t.pa) (.slice sa2 (t.st.length+1) sc2) (.slice pa1 t.pa.length pc1) 0 false p way w5):=HW4d.out.mono HJ.out hb0
   clear hb0
   have c10:w5.cell? ⟨w.heap.size+1,0,none⟩=some (.int .i64 (p:Int)):=HW5.out.bs.cell 0
   have c11:w5.cell? ⟨w.heap.size+1,1,none⟩=some (.int .i64 way):=HW5.out.bs.cell 1
   have c12:w5.cell? ⟨bt,2,none⟩=some (.slice (some ⟨bs,offs,none⟩) v.k sc):=(HT.out.mono HW5.out.bel hbt).s
   have c13:w5.cell? ⟨bs,offs+b*4+2,none⟩=some (.int .i64 (v.S b).sp):=(cell_keep HW5.out.bel (ltl hbs hbt) hsb)
   have x1p:w5.cell? ⟨w.heap.size,1,none⟩=some (.slice pa1 t.pa.length pc1):=HW5.out.bx.cell 1
   go_wp2_with fail
   refine hKK.out _ _ ?_ (fun hHeld=>?_)
   ·exact ⟨c10,c11,c12,c13⟩
   clear hKK KK
   try simp only [Act.put,List.setIfInBounds_toArray,List.set_cons_zero,List.set_cons_succ]
   refine wpAnyH_ready (rs:=[1,16]) (by kernel_rfl) (by simp) ?_
   refine AllReadyH.cons (o:={ dst:=some 36,op:=Op.load 61 (Operand.tmp 35),type:=61,pos:= "l2_route.go:182",after:=#[{ on:=0,ground:=Ground.data }],guard:=none }) rfl (fun KK hKK=>?_) ?_
   ·go_simp
    refine hKK.out _ _ ?_ (fun hHeld=>?_)
    ·exact ⟨c10,c11,c12,c13⟩
    clear hKK KK
    try simp only [Act.put,List.setIfInBounds_toArray,List.set_cons_zero,List.set_cons_succ]
    refine wpAnyH_ready (rs:=[16]) (by kernel_rfl) (by simp) ?_
    refine AllReadyH.cons (o:={ dst:=some 51,op:=Op.call { callee:=Callee.value (Operand.func 96),args:=#[Operand.tmp 37,Operand.tmp 38,Operand.tmp 39,Operand.tmp 50],argTypes:=#[72,100,3,3] },type:=104,pos:= "l2_route.go:182",after:=#[{ on:=2,ground:=Ground.data },{ on:=3,ground:=Ground.data },{ on:=4,ground:=Ground.data },{ on:=15,ground:=Ground.data },{ on:=15,ground:=Ground.chain }],guard:=none }) rfl (fun KK hKK=>?_) ?_
    ·go_simp
     refine (part96 OK.out p way far (farI (v.P p).ln (v.S b).sp way) _ (HT.out.mono HW5.out.bel hbt) hp hw ⟨hf0,by omega⟩ hen).mono ?_
     rintro e w6 ⟨rfl,hb1⟩
     have HW6:Hid (CmS n0 wB w D J (pre) D t (.slice sa1 t.st.length sc1) (.slice pa1 t.pa.length pc1) (.slice la t.li.length lc) (.slice xa t.cr.length xc) (t.st ++ [[(p:Int),way]]) (t.pa) (.slice sa2 (t.st.length+1) sc2) (.slice pa1 t.pa.length pc1) 0 false p way w6):=HW5.out.mono HJ.out hb1
     clear hb1
     have c20:w6.cell? ⟨w.heap.size+1,0,none⟩=some (.int .i64 (p:Int)):=HW6.out.bs.cell 0
     have c21:w6.cell? ⟨w.heap.size+1,1,none⟩=some (.int .i64 way):=HW6.out.bs.cell 1
     have c22:w6.cell? ⟨bt,2,none⟩=some (.slice (some ⟨bs,offs,none⟩) v.k sc):=(HT.out.mono HW6.out.bel hbt).s
     have c23:w6.cell? ⟨bs,offs+b*4+2,none⟩=some (.int .i64 (v.S b).sp):=(cell_keep HW6.out.bel (ltl hbs hbt) hsb)
     have x2p:w6.cell? ⟨w.heap.size,1,none⟩=some (.slice pa1 t.pa.length pc1):=HW6.out.bx.cell 1
     go_wp2_with fail
     refine hKK.out _ _ ?_ (fun hHeld=>?_)
     ·exact ⟨c20,c21,c22,c23⟩
     clear hKK KK
     try simp only [Act.put,List.setIfInBounds_toArray,List.set_cons_zero,List.set_cons_succ]
     refine wpAnyH_ready (rs:=[17]) (by kernel_rfl) (by simp) ?_
     refine AllReadyH.cons (o:={ dst:=some 52,op:=Op.buildSlice 61 1 #[(0,Operand.tmp 51)],type:=61,pos:= "l2_route.go:182",after:=#[{ on:=16,ground:=Ground.data }],guard:=none }) rfl (fun KK hKK=>?_) ?_
     ·have HW6a:Hid (CmS n0 wB w D J (pre) D t (.slice sa1 t.st.length sc1) (.slice pa1 t.pa.length pc1) (.slice la t.li.length lc) (.slice xa t.cr.length xc) (t.st ++ [[(p:Int),way]]) (t.pa) (.slice sa2 (t.st.length+1) sc2) (.slice pa1 t.pa.length pc1) 0 false p way (w6.alloc (.cells #[.int .i64 (p:Int),.int .i64 (partF (v.P p).ln way far (farI (v.P p).ln (v.S b).sp way)).1,.int .i64 (partF (v.P p).ln way far (farI (v.P p).ln (v.S b).sp way)).2] 104))):=HW6.out.mono HJ.out (bel1 w6 _)
      have c30:(w6.alloc (.cells #[.int .i64 (p:Int),.int .i64 (partF (v.P p).ln way far (farI (v.P p).ln (v.S b).sp way)).1,.int .i64 (partF (v.P p).ln way far (farI (v.P p).ln (v.S b).sp way)).2] 104)).cell? ⟨w.heap.size+1,0,none⟩=some (.int .i64 (p:Int)):=HW6a.out.bs.cell 0
      have c31:(w6.alloc (.cells #[.int .i64 (p:Int),.int .i64 (partF (v.P p).ln way far (farI (v.P p).ln (v.S b).sp way)).1,.int .i64 (partF (v.P p).ln way far (farI (v.P p).ln (v.S b).sp way)).2] 104)).cell? ⟨w.heap.size+1,1,none⟩=some (.int .i64 way):=HW6a.out.bs.cell 1
      have c32:(w6.alloc (.cells #[.int .i64 (p:Int),.int .i64 (partF (v.P p).ln way far (farI (v.P p).ln (v.S b).sp way)).1,.int .i64 (partF (v.P p).ln way far (farI (v.P p).ln (v.S b).sp way)).2] 104)).cell? ⟨bt,2,none⟩=some (.slice (some ⟨bs,offs,none⟩) v.k sc):=(HT.out.mono HW6a.out.bel hbt).s
      have c33:(w6.alloc (.cells #[.int .i64 (p:Int),.int .i64 (partF (v.P p).ln way far (farI (v.P p).ln (v.S b).sp way)).1,.int .i64 (partF (v.P p).ln way far (farI (v.P p).ln (v.S b).sp way)).2] 104)).cell? ⟨bs,offs+b*4+2,none⟩=some (.int .i64 (v.S b).sp):=(cell_keep HW6a.out.bel (ltl hbs hbt) hsb)
      have x3p:(w6.alloc (.cells #[.int .i64 (p:Int),.int .i64 (partF (v.P p).ln way far (farI (v.P p).ln (v.S b).sp way)).1,.int .i64 (partF (v.P p).ln way far (farI (v.P p).ln (v.S b).sp way)).2] 104)).cell? ⟨w.heap.size,1,none⟩=some (.slice pa1 t.pa.length pc1):=HW6a.out.bx.cell 1
      go_simp
      refine hKK.out _ _ ?_ (fun hHeld=>?_)
      ·exact ⟨c30,c31,c32,c33⟩
      clear hKK KK
      try simp only [Act.put,List.setIfInBounds_toArray,List.set_cons_zero,List.set_cons_succ]
      refine wpAnyH_ready (rs:=[18]) (by kernel_rfl) (by simp) ?_
      refine AllReadyH.cons (o:={ dst:=some 53,op:=Op.call { callee:=Callee.builtin Builtin.append,args:=#[Operand.tmp 36,Operand.tmp 52],argTypes:=#[61,61] },type:=61,pos:= "l2_route.go:182",after:=#[{ on:=1,ground:=Ground.data },{ on:=17,ground:=Ground.data },{ on:=16,ground:=Ground.chain }],guard:=none }) rfl (fun KK hKK=>?_) ?_
      ·refine step_app rfl (.tmp 36) (.tmp 52) 61 rfl n0 104 i4 (.agg #[.int .i64 0,.int .i64 0,.int .i64 0]) 3 24 Tryz.underlying61 e41 e42 e43 e44 rfl (by decide) (.slice pa1 t.pa.length pc1) t.pa (by simp [Act.eval]) HW6a.out.tl.q ⟨w6.heap.size,0,none⟩ 1 1 [partR (v.P p).ln p way far (farI (v.P p).ln (v.S b).sp way)] (by simp [Act.eval]) rfl (by decide) (Wide.one rfl) (news_at (partR (v.P p).ln p way far (farI (v.P p).ln (v.S b).sp way)) rfl) (by simp [maxLen];omega) (by omega) (Nat.le_trans HW6a.out.nz HW6a.out.fr.size) ?_
       intro v7 w7 ho7 hs7 ha7
       obtain ⟨pa2,pc2,rfl⟩:=ho7.val
       rw [List.length_append] at ho7 ha7
       have HW8:Hid (CmS n0 wB w D J (pre) D t (.slice sa1 t.st.length sc1) (.slice pa1 t.pa.length pc1) (.slice la t.li.length lc) (.slice xa t.cr.length xc) (t.st ++ [[(p:Int),way]]) (t.pa ++ [partR (v.P p).ln p way far (farI (v.P p).ln (v.S b).sp way)]) (.slice sa2 (t.st.length+1) sc2) (.slice pa2 (t.pa.length+1) pc2) 0 false p way (w7.setCell ⟨w.heap.size,1,none⟩ (.slice pa2 (t.pa.length+1) pc2))):=HW6a.out.parts HJ.out ha7 ho7 hs7
       have hb7:=HW6a.out.bx.grown ha7.fr (fun e=>HW6a.out.tl.q.off HW6a.out.bx (by decide) e rfl)
       have x7p:w7.cell? ⟨w.heap.size,1,none⟩=some (.slice pa1 t.pa.length pc1):=hb7.cell 1
       have g7:=hb7.free 1
       have hs7b:=HW6a.out.bs.grown ha7.fr (fun e=>HW6a.out.tl.q.off HW6a.out.bs (by decide) e rfl)
       have c70:w7.cell? ⟨w.heap.size+1,0,none⟩=some (.int .i64 (p:Int)):=hs7b.cell 0
       have c71:w7.cell? ⟨w.heap.size+1,1,none⟩=some (.int .i64 way):=hs7b.cell 1
       have hbl7:Below n0 wB w7:=HW6a.out.bel.grown ha7.fr (Nat.le_trans HW6a.out.nz HW6a.out.fr.size) (fun k e=>(HW6a.out.tl.q.lt e).1)
       have c72:w7.cell? ⟨bt,2,none⟩=some (.slice (some ⟨bs,offs,none⟩) v.k sc):=(HT.out.mono hbl7 hbt).s
       have c73:w7.cell? ⟨bs,offs+b*4+2,none⟩=some (.int .i64 (v.S b).sp):=(cell_keep hbl7 (ltl hbs hbt) hsb)
       refine hKK.out _ _ ?_ (fun hHeld=>?_)
       ·exact ⟨c70,c71,c72,c73⟩
       clear hKK KK
       try simp only [Act.put,List.setIfInBounds_toArray,List.set_cons_zero,List.set_cons_succ]
       refine wpAnyH_take (i:=19) (oi:={ dst:=some 54,op:=Op.fieldAddr 78 (Operand.tmp 6) 1,type:=0,pos:= "l2_route.go:182",after:=#[{ on:=0,ground:=Ground.phase },{ on:=1,ground:=Ground.phase },{ on:=2,ground:=Ground.phase },{ on:=3,ground:=Ground.phase },{ on:=4,ground:=Ground.phase },{ on:=5,ground:=Ground.phase },{ on:=6,ground:=Ground.phase },{ on:=7,ground:=Ground.phase },{ on:=8,ground:=Ground.phase },{ on:=9,ground:=Ground.phase },{ on:=10,ground:=Ground.phase },{ on:=11,ground:=Ground.phase },{ on:=12,ground:=Ground.phase },{ on:=13,ground:=Ground.phase },{ on:=14,ground:=Ground.phase },{ on:=15,ground:=Ground.phase },{ on:=16,ground:=Ground.phase },{ on:=17,ground:=Ground.phase },{ on:=18,ground:=Ground.phase }],guard:=none }) (v:=.pointer (some ⟨w.heap.size,1,none⟩)) rfl (by kernel_rfl) (by kernel_rfl) (by kernel_rfl) (fun _ _ _ h=>h) (Or.inl ⟨by rfl,?_⟩) (by assumption) ?_
       ·(intro w hSw;(try dsimp only at hSw);go_simp)
       try simp only [Act.put,List.setIfInBounds_toArray,List.set_cons_zero,List.set_cons_succ]
       refine wpAnyH_ready (rs:=[20]) (by kernel_rfl) (by simp) ?_
       refine AllReadyH.cons (o:={ dst:=none,op:=Op.store 61 (Operand.tmp 54) (Operand.tmp 53),type:=0,pos:= "l2_route.go:182",after:=#[{ on:=19,ground:=Ground.data },{ on:=18,ground:=Ground.data },{ on:=18,ground:=Ground.chain },{ on:=0,ground:=Ground.phase },{ on:=1,ground:=Ground.phase },{ on:=2,ground:=Ground.phase },{ on:=3,ground:=Ground.phase },{ on:=4,ground:=Ground.phase },{ on:=5,ground:=Ground.phase },{ on:=6,ground:=Ground.phase },{ on:=7,ground:=Ground.phase },{ on:=8,ground:=Ground.phase },{ on:=9,ground:=Ground.phase },{ on:=10,ground:=Ground.phase },{ on:=11,ground:=Ground.phase },{ on:=12,ground:=Ground.phase },{ on:=13,ground:=Ground.phase },{ on:=14,ground:=Ground.phase },{ on:=15,ground:=Ground.phase },{ on:=16,ground:=Ground.phase },{ on:=17,ground:=Ground.phase },{ on:=18,ground:=Ground.phase }],guard:=none }) rfl (fun KK hKK=>?_) AllReadyH.nil
       go_simp
       refine hKK.out _ _ ?_ (fun hHeld=>?_)
       ·exact ⟨HW8.out.bs.cell 0,HW8.out.bs.cell 1,(HT.out.mono HW8.out.bel hbt).s,(cell_keep HW8.out.bel (ltl hbs hbt) hsb)⟩
       clear hKK KK
       try simp only [Act.put,List.setIfInBounds_toArray,List.set_cons_zero,List.set_cons_succ]
       refine wpAnyH_done (by kernel_rfl) ?_ _
       go_wp2_with fail
       go_meet
       case rel=>exact ⟨_,_,HW8⟩
      exact AllReadyH.nil
     exact AllReadyH.nil
    exact AllReadyH.nil
   refine AllReadyH.cons (o:={ dst:=some 51,op:=Op.call { callee:=Callee.value (Operand.func 96),args:=#[Operand.tmp 37,Operand.tmp 38,Operand.tmp 39,Operand.tmp 50],argTypes:=#[72,100,3,3] },type:=104,pos:= "l2_route.go:182",after:=#[{ on:=2,ground:=Ground.data },{ on:=3,ground:=Ground.data },{ on:=4,ground:=Ground.data },{ on:=15,ground:=Ground.data },{ on:=15,ground:=Ground.chain }],guard:=none }) rfl (fun KK hKK=>?_) ?_
   ·go_simp
    refine (part96 OK.out p way far (farI (v.P p).ln (v.S b).sp way) _ (HT.out.mono HW5.out.bel hbt) hp hw ⟨hf0,by omega⟩ hen).mono ?_
    rintro e w6 ⟨rfl,hb1⟩
    have HW6:Hid (CmS n0 wB w D J (pre) D t (.slice sa1 t.st.length sc1) (.slice pa1 t.pa.length pc1) (.slice la t.li.length lc) (.slice xa t.cr.length xc) (t.st ++ [[(p:Int),way]]) (t.pa) (.slice sa2 (t.st.length+1) sc2) (.slice pa1 t.pa.length pc1) 0 false p way w6):=HW5.out.mono HJ.out hb1
    clear hb1
    have c20:w6.cell? ⟨w.heap.size+1,0,none⟩=some (.int .i64 (p:Int)):=HW6.out.bs.cell 0
    have c21:w6.cell? ⟨w.heap.size+1,1,none⟩=some (.int .i64 way):=HW6.out.bs.cell 1
    have c22:w6.cell? ⟨bt,2,none⟩=some (.slice (some ⟨bs,offs,none⟩) v.k sc):=(HT.out.mono HW6.out.bel hbt).s
    have c23:w6.cell? ⟨bs,offs+b*4+2,none⟩=some (.int .i64 (v.S b).sp):=(cell_keep HW6.out.bel (ltl hbs hbt) hsb)
    have x2p:w6.cell? ⟨w.heap.size,1,none⟩=some (.slice pa1 t.pa.length pc1):=HW6.out.bx.cell 1
    go_wp2_with fail
    refine hKK.out _ _ ?_ (fun hHeld=>?_)
    ·exact ⟨c20,c21,c22,c23⟩
    clear hKK KK
    try simp only [Act.put,List.setIfInBounds_toArray,List.set_cons_zero,List.set_cons_succ]
    refine wpAnyH_ready (rs:=[1,17]) (by kernel_rfl) (by simp) ?_
    refine AllReadyH.cons (o:={ dst:=some 36,op:=Op.load 61 (Operand.tmp 35),type:=61,pos:= "l2_route.go:182",after:=#[{ on:=0,ground:=Ground.data }],guard:=none }) rfl (fun KK hKK=>?_) ?_
    ·go_simp
     refine hKK.out _ _ ?_ (fun hHeld=>?_)
     ·exact ⟨c20,c21,c22,c23⟩
     clear hKK KK
     try simp only [Act.put,List.setIfInBounds_toArray,List.set_cons_zero,List.set_cons_succ]
     refine wpAnyH_ready (rs:=[17]) (by kernel_rfl) (by simp) ?_
     refine AllReadyH.cons (o:={ dst:=some 52,op:=Op.buildSlice 61 1 #[(0,Operand.tmp 51)],type:=61,pos:= "l2_route.go:182",after:=#[{ on:=16,ground:=Ground.data }],guard:=none }) rfl (fun KK hKK=>?_) ?_
     ·have HW6a:Hid (CmS n0 wB w D J (pre) D t (.slice sa1 t.st.length sc1) (.slice pa1 t.pa.length pc1) (.slice la t.li.length lc) (.slice xa t.cr.length xc) (t.st ++ [[(p:Int),way]]) (t.pa) (.slice sa2 (t.st.length+1) sc2) (.slice pa1 t.pa.length pc1) 0 false p way (w6.alloc (.cells #[.int .i64 (p:Int),.int .i64 (partF (v.P p).ln way far (farI (v.P p).ln (v.S b).sp way)).1,.int .i64 (partF (v.P p).ln way far (farI (v.P p).ln (v.S b).sp way)).2] 104))):=HW6.out.mono HJ.out (bel1 w6 _)
      have c30:(w6.alloc (.cells #[.int .i64 (p:Int),.int .i64 (partF (v.P p).ln way far (farI (v.P p).ln (v.S b).sp way)).1,.int .i64 (partF (v.P p).ln way far (farI (v.P p).ln (v.S b).sp way)).2] 104)).cell? ⟨w.heap.size+1,0,none⟩=some (.int .i64 (p:Int)):=HW6a.out.bs.cell 0
      have c31:(w6.alloc (.cells #[.int .i64 (p:Int),.int .i64 (partF (v.P p).ln way far (farI (v.P p).ln (v.S b).sp way)).1,.int .i64 (partF (v.P p).ln way far (farI (v.P p).ln (v.S b).sp way)).2] 104)).cell? ⟨w.heap.size+1,1,none⟩=some (.int .i64 way):=HW6a.out.bs.cell 1
      have c32:(w6.alloc (.cells #[.int .i64 (p:Int),.int .i64 (partF (v.P p).ln way far (farI (v.P p).ln (v.S b).sp way)).1,.int .i64 (partF (v.P p).ln way far (farI (v.P p).ln (v.S b).sp way)).2] 104)).cell? ⟨bt,2,none⟩=some (.slice (some ⟨bs,offs,none⟩) v.k sc):=(HT.out.mono HW6a.out.bel hbt).s
      have c33:(w6.alloc (.cells #[.int .i64 (p:Int),.int .i64 (partF (v.P p).ln way far (farI (v.P p).ln (v.S b).sp way)).1,.int .i64 (partF (v.P p).ln way far (farI (v.P p).ln (v.S b).sp way)).2] 104)).cell? ⟨bs,offs+b*4+2,none⟩=some (.int .i64 (v.S b).sp):=(cell_keep HW6a.out.bel (ltl hbs hbt) hsb)
      have x3p:(w6.alloc (.cells #[.int .i64 (p:Int),.int .i64 (partF (v.P p).ln way far (farI (v.P p).ln (v.S b).sp way)).1,.int .i64 (partF (v.P p).ln way far (farI (v.P p).ln (v.S b).sp way)).2] 104)).cell? ⟨w.heap.size,1,none⟩=some (.slice pa1 t.pa.length pc1):=HW6a.out.bx.cell 1
      go_simp
      refine hKK.out _ _ ?_ (fun hHeld=>?_)
      ·exact ⟨c30,c31,c32,c33⟩
      clear hKK KK
      try simp only [Act.put,List.setIfInBounds_toArray,List.set_cons_zero,List.set_cons_succ]
      refine wpAnyH_ready (rs:=[18]) (by kernel_rfl) (by simp) ?_
      refine AllReadyH.cons (o:={ dst:=some 53,op:=Op.call { callee:=Callee.builtin Builtin.append,args:=#[Operand.tmp 36,Operand.tmp 52],argTypes:=#[61,61] },type:=61,pos:= "l2_route.go:182",after:=#[{ on:=1,ground:=Ground.data },{ on:=17,ground:=Ground.data },{ on:=16,ground:=Ground.chain }],guard:=none }) rfl (fun KK hKK=>?_) ?_
      ·refine step_app rfl (.tmp 36) (.tmp 52) 61 rfl n0 104 i4 (.agg #[.int .i64 0,.int .i64 0,.int .i64 0]) 3 24 Tryz.underlying61 e41 e42 e43 e44 rfl (by decide) (.slice pa1 t.pa.length pc1) t.pa (by simp [Act.eval]) HW6a.out.tl.q ⟨w6.heap.size,0,none⟩ 1 1 [partR (v.P p).ln p way far (farI (v.P p).ln (v.S b).sp way)] (by simp [Act.eval]) rfl (by decide) (Wide.one rfl) (news_at (partR (v.P p).ln p way far (farI (v.P p).ln (v.S b).sp way)) rfl) (by simp [maxLen];omega) (by omega) (Nat.le_trans HW6a.out.nz HW6a.out.fr.size) ?_
       intro v7 w7 ho7 hs7 ha7
       obtain ⟨pa2,pc2,rfl⟩:=ho7.val
       rw [List.length_append] at ho7 ha7
       have HW8:Hid (CmS n0 wB w D J (pre) D t (.slice sa1 t.st.length sc1) (.slice pa1 t.pa.length pc1) (.slice la t.li.length lc) (.slice xa t.cr.length xc) (t.st ++ [[(p:Int),way]]) (t.pa ++ [partR (v.P p).ln p way far (farI (v.P p).ln (v.S b).sp way)]) (.slice sa2 (t.st.length+1) sc2) (.slice pa2 (t.pa.length+1) pc2) 0 false p way (w7.setCell ⟨w.heap.size,1,none⟩ (.slice pa2 (t.pa.length+1) pc2))):=HW6a.out.parts HJ.out ha7 ho7 hs7
       have hb7:=HW6a.out.bx.grown ha7.fr (fun e=>HW6a.out.tl.q.off HW6a.out.bx (by decide) e rfl)
       have x7p:w7.cell? ⟨w.heap.size,1,none⟩=some (.slice pa1 t.pa.length pc1):=hb7.cell 1
       have g7:=hb7.free 1
       have hs7b:=HW6a.out.bs.grown ha7.fr (fun e=>HW6a.out.tl.q.off HW6a.out.bs (by decide) e rfl)
       have c70:w7.cell? ⟨w.heap.size+1,0,none⟩=some (.int .i64 (p:Int)):=hs7b.cell 0
       have c71:w7.cell? ⟨w.heap.size+1,1,none⟩=some (.int .i64 way):=hs7b.cell 1
       have hbl7:Below n0 wB w7:=HW6a.out.bel.grown ha7.fr (Nat.le_trans HW6a.out.nz HW6a.out.fr.size) (fun k e=>(HW6a.out.tl.q.lt e).1)
       have c72:w7.cell? ⟨bt,2,none⟩=some (.slice (some ⟨bs,offs,none⟩) v.k sc):=(HT.out.mono hbl7 hbt).s
       have c73:w7.cell? ⟨bs,offs+b*4+2,none⟩=some (.int .i64 (v.S b).sp):=(cell_keep hbl7 (ltl hbs hbt) hsb)
       refine hKK.out _ _ ?_ (fun hHeld=>?_)
       ·exact ⟨c70,c71,c72,c73⟩
       clear hKK KK
       try simp only [Act.put,List.setIfInBounds_toArray,List.set_cons_zero,List.set_cons_succ]
       refine wpAnyH_take (i:=19) (oi:={ dst:=some 54,op:=Op.fieldAddr 78 (Operand.tmp 6) 1,type:=0,pos:= "l2_route.go:182",after:=#[{ on:=0,ground:=Ground.phase },{ on:=1,ground:=Ground.phase },{ on:=2,ground:=Ground.phase },{ on:=3,ground:=Ground.phase },{ on:=4,ground:=Ground.phase },{ on:=5,ground:=Ground.phase },{ on:=6,ground:=Ground.phase },{ on:=7,ground:=Ground.phase },{ on:=8,ground:=Ground.phase },{ on:=9,ground:=Ground.phase },{ on:=10,ground:=Ground.phase },{ on:=11,ground:=Ground.phase },{ on:=12,ground:=Ground.phase },{ on:=13,ground:=Ground.phase },{ on:=14,ground:=Ground.phase },{ on:=15,ground:=Ground.phase },{ on:=16,ground:=Ground.phase },{ on:=17,ground:=Ground.phase },{ on:=18,ground:=Ground.phase }],guard:=none }) (v:=.pointer (some ⟨w.heap.size,1,none⟩)) rfl (by kernel_rfl) (by kernel_rfl) (by kernel_rfl) (fun _ _ _ h=>h) (Or.inl ⟨by rfl,?_⟩) (by assumption) ?_
       ·(intro w hSw;(try dsimp only at hSw);go_simp)
       try simp only [Act.put,List.setIfInBounds_toArray,List.set_cons_zero,List.set_cons_succ]
       refine wpAnyH_ready (rs:=[20]) (by kernel_rfl) (by simp) ?_
       refine AllReadyH.cons (o:={ dst:=none,op:=Op.store 61 (Operand.tmp 54) (Operand.tmp 53),type:=0,pos:= "l2_route.go:182",after:=#[{ on:=19,ground:=Ground.data },{ on:=18,ground:=Ground.data },{ on:=18,ground:=Ground.chain },{ on:=0,ground:=Ground.phase },{ on:=1,ground:=Ground.phase },{ on:=2,ground:=Ground.phase },{ on:=3,ground:=Ground.phase },{ on:=4,ground:=Ground.phase },{ on:=5,ground:=Ground.phase },{ on:=6,ground:=Ground.phase },{ on:=7,ground:=Ground.phase },{ on:=8,ground:=Ground.phase },{ on:=9,ground:=Ground.phase },{ on:=10,ground:=Ground.phase },{ on:=11,ground:=Ground.phase },{ on:=12,ground:=Ground.phase },{ on:=13,ground:=Ground.phase },{ on:=14,ground:=Ground.phase },{ on:=15,ground:=Ground.phase },{ on:=16,ground:=Ground.phase },{ on:=17,ground:=Ground.phase },{ on:=18,ground:=Ground.phase }],guard:=none }) rfl (fun KK hKK=>?_) AllReadyH.nil
       go_simp
       refine hKK.out _ _ ?_ (fun hHeld=>?_)
       ·exact ⟨HW8.out.bs.cell 0,HW8.out.bs.cell 1,(HT.out.mono HW8.out.bel hbt).s,(cell_keep HW8.out.bel (ltl hbs hbt) hsb)⟩
       clear hKK KK
       try simp only [Act.put,List.setIfInBounds_toArray,List.set_cons_zero,List.set_cons_succ]
       refine wpAnyH_done (by kernel_rfl) ?_ _
       go_wp2_with fail
       go_meet
       case rel=>exact ⟨_,_,HW8⟩
      exact AllReadyH.nil
     exact AllReadyH.nil
    refine AllReadyH.cons (o:={ dst:=some 52,op:=Op.buildSlice 61 1 #[(0,Operand.tmp 51)],type:=61,pos:= "l2_route.go:182",after:=#[{ on:=16,ground:=Ground.data }],guard:=none }) rfl (fun KK hKK=>?_) ?_
    ·have HW6a:Hid (CmS n0 wB w D J (pre) D t (.slice sa1 t.st.length sc1) (.slice pa1 t.pa.length pc1) (.slice la t.li.length lc) (.slice xa t.cr.length xc) (t.st ++ [[(p:Int),way]]) (t.pa) (.slice sa2 (t.st.length+1) sc2) (.slice pa1 t.pa.length pc1) 0 false p way (w6.alloc (.cells #[.int .i64 (p:Int),.int .i64 (partF (v.P p).ln way far (farI (v.P p).ln (v.S b).sp way)).1,.int .i64 (partF (v.P p).ln way far (farI (v.P p).ln (v.S b).sp way)).2] 104))):=HW6.out.mono HJ.out (bel1 w6 _)
     have c30:(w6.alloc (.cells #[.int .i64 (p:Int),.int .i64 (partF (v.P p).ln way far (farI (v.P p).ln (v.S b).sp way)).1,.int .i64 (partF (v.P p).ln way far (farI (v.P p).ln (v.S b).sp way)).2] 104)).cell? ⟨w.heap.size+1,0,none⟩=some (.int .i64 (p:Int)):=HW6a.out.bs.cell 0
     have c31:(w6.alloc (.cells #[.int .i64 (p:Int),.int .i64 (partF (v.P p).ln way far (farI (v.P p).ln (v.S b).sp way)).1,.int .i64 (partF (v.P p).ln way far (farI (v.P p).ln (v.S b).sp way)).2] 104)).cell? ⟨w.heap.size+1,1,none⟩=some (.int .i64 way):=HW6a.out.bs.cell 1
     have c32:(w6.alloc (.cells #[.int .i64 (p:Int),.int .i64 (partF (v.P p).ln way far (farI (v.P p).ln (v.S b).sp way)).1,.int .i64 (partF (v.P p).ln way far (farI (v.P p).ln (v.S b).sp way)).2] 104)).cell? ⟨bt,2,none⟩=some (.slice (some ⟨bs,offs,none⟩) v.k sc):=(HT.out.mono HW6a.out.bel hbt).s
     have c33:(w6.alloc (.cells #[.int .i64 (p:Int),.int .i64 (partF (v.P p).ln way far (farI (v.P p).ln (v.S b).sp way)).1,.int .i64 (partF (v.P p).ln way far (farI (v.P p).ln (v.S b).sp way)).2] 104)).cell? ⟨bs,offs+b*4+2,none⟩=some (.int .i64 (v.S b).sp):=(cell_keep HW6a.out.bel (ltl hbs hbt) hsb)
     have x3p:(w6.alloc (.cells #[.int .i64 (p:Int),.int .i64 (partF (v.P p).ln way far (farI (v.P p).ln (v.S b).sp way)).1,.int .i64 (partF (v.P p).ln way far (farI (v.P p).ln (v.S b).sp way)).2] 104)).cell? ⟨w.heap.size,1,none⟩=some (.slice pa1 t.pa.length pc1):=HW6a.out.bx.cell 1
     go_simp
     refine hKK.out _ _ ?_ (fun hHeld=>?_)
     ·exact ⟨c30,c31,c32,c33⟩
     clear hKK KK
     try simp only [Act.put,List.setIfInBounds_toArray,List.set_cons_zero,List.set_cons_succ]
     refine wpAnyH_ready (rs:=[1]) (by kernel_rfl) (by simp) ?_
     refine AllReadyH.cons (o:={ dst:=some 36,op:=Op.load 61 (Operand.tmp 35),type:=61,pos:= "l2_route.go:182",after:=#[{ on:=0,ground:=Ground.data }],guard:=none }) rfl (fun KK hKK=>?_) ?_
     ·go_simp
      refine hKK.out _ _ ?_ (fun hHeld=>?_)
      ·exact ⟨c30,c31,c32,c33⟩
      clear hKK KK
      try simp only [Act.put,List.setIfInBounds_toArray,List.set_cons_zero,List.set_cons_succ]
      refine wpAnyH_ready (rs:=[18]) (by kernel_rfl) (by simp) ?_
      refine AllReadyH.cons (o:={ dst:=some 53,op:=Op.call { callee:=Callee.builtin Builtin.append,args:=#[Operand.tmp 36,Operand.tmp 52],argTypes:=#[61,61] },type:=61,pos:= "l2_route.go:182",after:=#[{ on:=1,ground:=Ground.data },{ on:=17,ground:=Ground.data },{ on:=16,ground:=Ground.chain }],guard:=none }) rfl (fun KK hKK=>?_) ?_
      ·refine step_app rfl (.tmp 36) (.tmp 52) 61 rfl n0 104 i4 (.agg #[.int .i64 0,.int .i64 0,.int .i64 0]) 3 24 Tryz.underlying61 e41 e42 e43 e44 rfl (by decide) (.slice pa1 t.pa.length pc1) t.pa (by simp [Act.eval]) HW6a.out.tl.q ⟨w6.heap.size,0,none⟩ 1 1 [partR (v.P p).ln p way far (farI (v.P p).ln (v.S b).sp way)] (by simp [Act.eval]) rfl (by decide) (Wide.one rfl) (news_at (partR (v.P p).ln p way far (farI (v.P p).ln (v.S b).sp way)) rfl) (by simp [maxLen];omega) (by omega) (Nat.le_trans HW6a.out.nz HW6a.out.fr.size) ?_
       intro v7 w7 ho7 hs7 ha7
       obtain ⟨pa2,pc2,rfl⟩:=ho7.val
       rw [List.length_append] at ho7 ha7
       have HW8:Hid (CmS n0 wB w D J (pre) D t (.slice sa1 t.st.length sc1) (.slice pa1 t.pa.length pc1) (.slice la t.li.length lc) (.slice xa t.cr.length xc) (t.st ++ [[(p:Int),way]]) (t.pa ++ [partR (v.P p).ln p way far (farI (v.P p).ln (v.S b).sp way)]) (.slice sa2 (t.st.length+1) sc2) (.slice pa2 (t.pa.length+1) pc2) 0 false p way (w7.setCell ⟨w.heap.size,1,none⟩ (.slice pa2 (t.pa.length+1) pc2))):=HW6a.out.parts HJ.out ha7 ho7 hs7
       have hb7:=HW6a.out.bx.grown ha7.fr (fun e=>HW6a.out.tl.q.off HW6a.out.bx (by decide) e rfl)
       have x7p:w7.cell? ⟨w.heap.size,1,none⟩=some (.slice pa1 t.pa.length pc1):=hb7.cell 1
       have g7:=hb7.free 1
       have hs7b:=HW6a.out.bs.grown ha7.fr (fun e=>HW6a.out.tl.q.off HW6a.out.bs (by decide) e rfl)
       have c70:w7.cell? ⟨w.heap.size+1,0,none⟩=some (.int .i64 (p:Int)):=hs7b.cell 0
       have c71:w7.cell? ⟨w.heap.size+1,1,none⟩=some (.int .i64 way):=hs7b.cell 1
       have hbl7:Below n0 wB w7:=HW6a.out.bel.grown ha7.fr (Nat.le_trans HW6a.out.nz HW6a.out.fr.size) (fun k e=>(HW6a.out.tl.q.lt e).1)
       have c72:w7.cell? ⟨bt,2,none⟩=some (.slice (some ⟨bs,offs,none⟩) v.k sc):=(HT.out.mono hbl7 hbt).s
       have c73:w7.cell? ⟨bs,offs+b*4+2,none⟩=some (.int .i64 (v.S b).sp):=(cell_keep hbl7 (ltl hbs hbt) hsb)
       refine hKK.out _ _ ?_ (fun hHeld=>?_)
       ·exact ⟨c70,c71,c72,c73⟩
       clear hKK KK
       try simp only [Act.put,List.setIfInBounds_toArray,List.set_cons_zero,List.set_cons_succ]
       refine wpAnyH_take (i:=19) (oi:={ dst:=some 54,op:=Op.fieldAddr 78 (Operand.tmp 6) 1,type:=0,pos:= "l2_route.go:182",after:=#[{ on:=0,ground:=Ground.phase },{ on:=1,ground:=Ground.phase },{ on:=2,ground:=Ground.phase },{ on:=3,ground:=Ground.phase },{ on:=4,ground:=Ground.phase },{ on:=5,ground:=Ground.phase },{ on:=6,ground:=Ground.phase },{ on:=7,ground:=Ground.phase },{ on:=8,ground:=Ground.phase },{ on:=9,ground:=Ground.phase },{ on:=10,ground:=Ground.phase },{ on:=11,ground:=Ground.phase },{ on:=12,ground:=Ground.phase },{ on:=13,ground:=Ground.phase },{ on:=14,ground:=Ground.phase },{ on:=15,ground:=Ground.phase },{ on:=16,ground:=Ground.phase },{ on:=17,ground:=Ground.phase },{ on:=18,ground:=Ground.phase }],guard:=none }) (v:=.pointer (some ⟨w.heap.size,1,none⟩)) rfl (by kernel_rfl) (by kernel_rfl) (by kernel_rfl) (fun _ _ _ h=>h) (Or.inl ⟨by rfl,?_⟩) (by assumption) ?_
       ·(intro w hSw;(try dsimp only at hSw);go_simp)
       try simp only [Act.put,List.setIfInBounds_toArray,List.set_cons_zero,List.set_cons_succ]
       refine wpAnyH_ready (rs:=[20]) (by kernel_rfl) (by simp) ?_
       refine AllReadyH.cons (o:={ dst:=none,op:=Op.store 61 (Operand.tmp 54) (Operand.tmp 53),type:=0,pos:= "l2_route.go:182",after:=#[{ on:=19,ground:=Ground.data },{ on:=18,ground:=Ground.data },{ on:=18,ground:=Ground.chain },{ on:=0,ground:=Ground.phase },{ on:=1,ground:=Ground.phase },{ on:=2,ground:=Ground.phase },{ on:=3,ground:=Ground.phase },{ on:=4,ground:=Ground.phase },{ on:=5,ground:=Ground.phase },{ on:=6,ground:=Ground.phase },{ on:=7,ground:=Ground.phase },{ on:=8,ground:=Ground.phase },{ on:=9,ground:=Ground.phase },{ on:=10,ground:=Ground.phase },{ on:=11,ground:=Ground.phase },{ on:=12,ground:=Ground.phase },{ on:=13,ground:=Ground.phase },{ on:=14,ground:=Ground.phase },{ on:=15,ground:=Ground.phase },{ on:=16,ground:=Ground.phase },{ on:=17,ground:=Ground.phase },{ on:=18,ground:=Ground.phase }],guard:=none }) rfl (fun KK hKK=>?_) AllReadyH.nil
       go_simp
       refine hKK.out _ _ ?_ (fun hHeld=>?_)
       ·exact ⟨HW8.out.bs.cell 0,HW8.out.bs.cell 1,(HT.out.mono HW8.out.bel hbt).s,(cell_keep HW8.out.bel (ltl hbs hbt) hsb)⟩
       clear hKK KK
       try simp only [Act.put,List.setIfInBounds_toArray,List.set_cons_zero,List.set_cons_succ]
       refine wpAnyH_done (by kernel_rfl) ?_ _
       go_wp2_with fail
       go_meet
       case rel=>exact ⟨_,_,HW8⟩
      exact AllReadyH.nil
     exact AllReadyH.nil
    exact AllReadyH.nil
   exact AllReadyH.nil
  exact AllReadyH.nil
 case rest=>
  obtain ⟨pa2,pc2,HC⟩:=hcut
  have HC2:Hid (CmS n0 wB w D J (pre) D t (.slice sa1 t.st.length sc1) (.slice pa1 t.pa.length pc1) (.slice la t.li.length lc) (.slice xa t.cr.length xc) (t.st ++ [[(p:Int),way]]) (t.pa ++ [partR (v.P p).ln p way far (farI (v.P p).ln (v.S b).sp way)]) (.slice sa2 (t.st.length+1) sc2) (.slice pa2 (t.pa.length+1) pc2) ((b:Int)) true p way ((wc.setCell ⟨w.heap.size,4,none⟩ (.int .i64 ((b:Int)))).setCell ⟨w.heap.size,5,none⟩ (.bool true))):=(HC.out.put HJ.out 4 (.int .i64 ((b:Int))) (tt':=(b:Int)) (dn':=false) rfl).put HJ.out 5 (.bool true) rfl
  have q4:wc.cell? ⟨w.heap.size,4,none⟩=some (.int .i64 0):=HC.out.bx.cell 4
  have q5:wc.cell? ⟨w.heap.size,5,none⟩=some (.bool false):=HC.out.bx.cell 5
  have g4:=HC.out.bx.free 4
  have g5:=HC.out.bx.free 5
  go_upto_region 7 with fail
  clear q4 q5 g4 g5 HC
  generalize ((wc.setCell ⟨w.heap.size,4,none⟩ (.int .i64 (b:Int))).setCell ⟨w.heap.size,5,none⟩ (.bool true))=w9 at HC2 ⊢
  obtain ⟨fn,tmps,assign,body,hy,hR⟩:=HY.out 2 pre w9 D { t with st:=t.st ++ [[(p:Int),way]],pa:=t.pa ++ [partR (v.P p).ln p way far (farI (v.P p).ln (v.S b).sp way)] } ((b:Int)) true (some (v.fin fr b { t with st:=t.st ++ [[(p:Int),way]],pa:=t.pa ++ [partR (v.P p).ln p way far (farI (v.P p).ln (v.S b).sp way)] } (ovOf v (b:Int)))) _ _ _ _ HC2.out.j HC2.out.bel HC2.out.now HC2.out.free (.inl ⟨rfl,rfl,by simp;omega,by simp;omega,by simp;omega,by simp;omega,HOK.out.1.li,HOK.out.2,.inr ⟨by omega,by omega⟩⟩)
  have r0:w9.cell? ⟨w.heap.size,0,none⟩=some (.slice sa2 (t.st.length+1) sc2):=HC2.out.bx.cell 0
  have r1:w9.cell? ⟨w.heap.size,1,none⟩=some (.slice pa2 (t.pa.length+1) pc2):=HC2.out.bx.cell 1
  have r2:w9.cell? ⟨w.heap.size,2,none⟩=some (.slice la t.li.length lc):=HC2.out.bx.cell 2
  have r3:w9.cell? ⟨w.heap.size,3,none⟩=some (.slice xa t.cr.length xc):=HC2.out.bx.cell 3
  have r4:w9.cell? ⟨w.heap.size,4,none⟩=some (.int .i64 ((b:Int))):=HC2.out.bx.cell 4
  have r5:w9.cell? ⟨w.heap.size,5,none⟩=some (.bool true):=HC2.out.bx.cell 5
  have HR:Hid (RoundIn Fence.wide 2 Tryz.prog l fn tmps assign body w9 (YPost J Jx pre (some (v.fin fr b { t with st:=t.st ++ [[(p:Int),way]],pa:=t.pa ++ [partR (v.P p).ln p way far (farI (v.P p).ln (v.S b).sp way)] } (ovOf v (b:Int)))) w9 D)):=hR
  clear hR
  refine (wpIn_wide (n:=3)).1 ?_
  gi_wp2
  refine HR.out.mono ?_
  clear HR hy r0 r1 r2 r3 r4 r5
  rintro e w10 ⟨D',hfr,hD,⟨rfl,hj⟩ | ⟨rfl,hj⟩⟩
  ·have H10:Hid (CmS n0 wB w D J (pre ++ [some (v.fin fr b { t with st:=t.st ++ [[(p:Int),way]],pa:=t.pa ++ [partR (v.P p).ln p way far (farI (v.P p).ln (v.S b).sp way)] } (ovOf v (b:Int)))]) D' t (.slice sa1 t.st.length sc1) (.slice pa1 t.pa.length pc1) (.slice la t.li.length lc) (.slice xa t.cr.length xc) (t.st ++ [[(p:Int),way]]) (t.pa ++ [partR (v.P p).ln p way far (farI (v.P p).ln (v.S b).sp way)]) (.slice sa2 (t.st.length+1) sc2) (.slice pa2 (t.pa.length+1) pc2) (b:Int) true p way w10):=HC2.out.round HJ.out hfr hD hj
   clear hfr hD hj HC2
   gi_wp2
   go_wp2_with fail
   go_ret
   exact ⟨D',H10.out.hd,H10.out.fr,H10.out.tl,.inl ⟨rfl,by rw [HWK.out];exact H10.out.j⟩⟩
  ·have H10:Hid (CmS n0 wB w D Jx (pre ++ [some (v.fin fr b { t with st:=t.st ++ [[(p:Int),way]],pa:=t.pa ++ [partR (v.P p).ln p way far (farI (v.P p).ln (v.S b).sp way)] } (ovOf v (b:Int)))]) D' t (.slice sa1 t.st.length sc1) (.slice pa1 t.pa.length pc1) (.slice la t.li.length lc) (.slice xa t.cr.length xc) (t.st ++ [[(p:Int),way]]) (t.pa ++ [partR (v.P p).ln p way far (farI (v.P p).ln (v.S b).sp way)]) (.slice sa2 (t.st.length+1) sc2) (.slice pa2 (t.pa.length+1) pc2) (b:Int) true p way w10):=HC2.out.round HJ.out hfr hD hj
   clear hfr hD hj HC2
   gi_wp2
   go_wp2_with fail
   go_ret
   exact ⟨D',H10.out.hd,H10.out.fr,H10.out.tl,.inr ⟨rfl,_,by rw [HWK.out];exact List.prefix_refl _,H10.out.j⟩⟩
end Go.Proofs.YtkhaehpobpkkiaaGreat
