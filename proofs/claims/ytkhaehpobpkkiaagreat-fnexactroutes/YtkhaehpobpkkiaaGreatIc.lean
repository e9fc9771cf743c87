import Derived.Deep.RegionLaw
import Derived.Test.YtkhaehpobpkkiaaGreatI7
import Derived.Test.YtkhaehpobpkkiaaGreatNb
import Derived.Test.YtkhaehpobpkkiaaGreatNa
import Derived.Test.YtkhaehpobpkkiaaGreatKi
namespace Go.Proofs.YtkhaehpobpkkiaaGreat
open Go.RowKit
set_option maxRecDepth 100000 in
set_option maxHeartbeats 8000000 in
theorem find104 (B bf:Nat)(vs:Array Value)(fv:Value)(fl:List Rw)(at' kd of lie:Int)(w:World)(hb:Box w bf 143 vs)(h2:vs[2]?=some (.int .i64 at'))(h203:vs[203]?=some fv)(hB:B≤w.heap.size)(ho:Own B 155 4 w fv fl)(hn:fl.length≤1048575):
 Calls Tryz.prog 104 #[.pointer (some ⟨bf,0,none⟩),.int .i64 kd,.int .i64 of,.int .i64 lie] w fun e w'=>e=.returned (.tuple #[])∧∃ fv',Own B 155 4 w' fv' (fl ++ [[at',kd,of,lie]])∧Box w' bf 143 (vs.setIfInBounds 203 fv')∧Fr (fun k=>k=bf∨fv.ownBlock=some k) w w'∧Moved w fv fv':=by
 obtain ⟨af,cf,rfl⟩:=ho.val
 obtain ⟨i5,e51,e52,e53,e54⟩:=info_parts infoFlank
 have x2:w.cell? ⟨bf,2,none⟩=some (.int .i64 at'):=(hb.cell 2).trans h2
 have x3:w.cell? ⟨bf,203,none⟩=some (.slice af fl.length cf):=(hb.cell 203).trans h203
 have x2':∀ o,(w.alloc o).cell? ⟨bf,2,none⟩=some (.int .i64 at'):=fun o=>((hb.alloc o).cell 2).trans h2
 have x3':∀ o,(w.alloc o).cell? ⟨bf,203,none⟩=some (.slice af fl.length cf):=fun o=>((hb.alloc o).cell 203).trans h203
 have HX:Hid (Box w bf 143 vs):=hb
 have HO:Hid (Own B 155 4 w (.slice af fl.length cf) fl):=ho
 have H3:Hid (vs[203]?=some (.slice af fl.length cf)):=h203
 clear hb ho h2 h203
 go_enter Tryz.func104,Tryz.ntmps104
 go_wp2_with fail
 go_region_law (refine step_app rfl (.tmp 12) (.tmp 21) 62 rfl B 155 i5 (.agg #[.int .i64 0,.int .i64 0,.int .i64 0,.int .i64 0]) 4 32 Tryz.underlying62 e51 e52 e53 e54 rfl (by decide) (.slice af fl.length cf) fl (by simp [Act.eval]) (HO.out.alloc _).drew ⟨w.heap.size,0,none⟩ 1 1 [[at',kd,of,lie]] (by simp [Act.eval]) rfl (by decide) (Wide.one rfl) (news_drew [at',kd,of,lie] rfl) (by simp [maxLen];omega) (by omega) (by simp;omega) ?_;intro v1 w1 ho1 hs1 hap;have q1:Box w1 bf 143 vs:=(HX.out.alloc _).drew.grown hap.fr (fun e=>HO.out.off HX.out (by decide) e rfl);have t1:=q1.free 203;have u1:w1.cell? ⟨bf,203,none⟩=some (.slice af fl.length cf):=(q1.cell 203).trans H3.out;obtain ⟨a1,c1,rfl⟩:=ho1.val;rw [List.length_append] at ho1 hap)
 all_goals
  have HQ1:Hid (Box w1 bf 143 vs):=q1
  have HO1:Hid (Own B 155 4 w1 (.slice a1 (fl.length+1) c1) (fl ++ [[at',kd,of,lie]])):=ho1
  have HF1:Hid (Fr (fun k=>k=bf∨(Value.slice af fl.length cf).ownBlock=some k) w w1):=(Fr.of_below (X:=fun k=>k=bf∨(Value.slice af fl.length cf).ownBlock=some k) (bel1 w _).drew).trans (Fr.of_grown hap.fr (fun k e _=>.inr e))
  have HM1:Hid (Moved w (.slice af fl.length cf) (.slice a1 (fl.length+1) c1)):=hap.moved.old (bel1 w _).drew.size
  clear q1 ho1 hs1 hap t1 u1
  go_end0
  exact ⟨rfl,_,HO1.out.set HQ1.out (by decide) 203 _,HQ1.out.set 203 _,HF1.out.trans (Fr.set _ _ (.inl rfl)),HM1.out⟩
def turnF (li:List Rw)(at':Int)(j q:Nat):Rw:=if (lieF li (j:Int)).getD 0=(q:Int) then [at',4,(j:Int),0] else [at',3,(j:Int),3-(q:Int)]
set_option maxRecDepth 100000 in
set_option maxHeartbeats 8000000 in
theorem turned118 (B bf:Nat)(vs:Array Value)(lv fv:Value)(li fl:List Rw)(at':Int)(j q:Nat)(w:World)(hb:Box w bf 143 vs)(h1:vs[1]?=some lv)(hl:LsAt 2 0 w lv li)(hll:li.length≤1048576)(h2:vs[2]?=some (.int .i64 at'))(h203:vs[203]?=some fv)(hB:B≤w.heap.size)(ho:Own B 155 4 w fv fl)(hn:fl.length≤1048575)(_hj:j≤1000)(hq:q≤3):
 Calls Tryz.prog 118 #[.pointer (some ⟨bf,0,none⟩),.agg #[.int .i64 (j:Int),.int .i64 (q:Int)]] w fun e w'=>e=.returned (.tuple #[])∧∃ fv',Own B 155 4 w' fv' (fl ++ [turnF li at' j q])∧Box w' bf 143 (vs.setIfInBounds 203 fv')∧Fr (fun k=>k=bf∨fv.ownBlock=some k) w w'∧Moved w fv fv':=by
 obtain ⟨al,cl,hlv,_⟩:=hl.val
 subst hlv
 have HX:Hid (Box w bf 143 vs):=hb
 have HO:Hid (Own B 155 4 w fv fl):=ho
 have HL:Hid (LsAt 2 0 w (.slice al li.length cl) li):=hl
 have H1:Hid (vs[1]?=some (.slice al li.length cl)):=h1
 have H2:Hid (vs[2]?=some (.int .i64 at')):=h2
 have H3:Hid (vs[203]?=some fv):=h203
 clear hb ho hl h1 h2 h203
 go_enter Tryz.func118,Tryz.ntmps118
 go_wp2_with fail
 have c0:=(bel1 w (.cells #[.int .i64 (j:Int),.int .i64 (q:Int)] 128)).drew
 have HA:Hid (Box (w.alloc (.cells #[.int .i64 (j:Int),.int .i64 (q:Int)] 128)).drew w.heap.size 128 #[.int .i64 (j:Int),.int .i64 (q:Int)]):=(Box.new w 128 _).drew
 have HX0:Hid (Box (w.alloc (.cells #[.int .i64 (j:Int),.int .i64 (q:Int)] 128)).drew bf 143 vs):=HX.out.mono c0 lr
 have HL0:Hid (LsAt 2 0 (w.alloc (.cells #[.int .i64 (j:Int),.int .i64 (q:Int)] 128)).drew (.slice al li.length cl) li):=HL.out.mono lr c0 lr
 have x1:w.cell? ⟨bf,1,none⟩=some (.slice al li.length cl):=(HX.out.cell 1).trans H1.out
 have hbl:=HX.out.lt
 have C0:Hid (Below w.heap.size w (w.alloc (.cells #[.int .i64 (j:Int),.int .i64 (q:Int)] 128)).drew):=c0
 clear c0
 go_region_held3 (fun w'=>w'.cell? ⟨bf,1,none⟩=some (.slice al li.length cl)∧w'.cell? ⟨w.heap.size,0,none⟩=some (.int .i64 (j:Int))∧w'.cell? ⟨w.heap.size,1,none⟩=some (.int .i64 (q:Int))) (go_keep) (first
  | (go_at_call 117;refine (lieOf117 (.slice al li.length cl) li (j:Int) _ HL0.out hll).mono ?_;rintro e w1 ⟨rfl,hb1⟩;have m0:w1.cell? ⟨bf,1,none⟩=some (.slice al li.length cl):=((HX0.out.mono hb1 lr).cell 1).trans H1.out;have m1:w1.cell? ⟨w.heap.size,0,none⟩=some (.int .i64 (j:Int)):=(HA.out.mono hb1 lr).cell 0;have m2:w1.cell? ⟨w.heap.size,1,none⟩=some (.int .i64 (q:Int)):=(HA.out.mono hb1 lr).cell 1))
 all_goals
  have B1:=C0.out.trans (hb1.mono C0.out.size)
  have HX1:Hid (Box w1 bf 143 vs):=HX.out.mono B1 lr
  have HO1:Hid (Own B 155 4 w1 fv fl):=HO.out.mono lr B1 lr
  have HF1:Hid (Fr (fun k=>k=bf∨fv.ownBlock=some k) w w1):=Fr.of_below B1
  have z1:=B1.size
  clear HX0 HL0 HA C0 hb1 B1
  by_cases h9:(lieF li (j:Int)).getD 0=(q:Int)
  ·have h9':((lieF li (j:Int)).getD 0 == (q:Int))=true:=by simp [h9]
   have HV:Hid (turnF li at' j q=[at',4,(j:Int),0]):=by show _=_;simp [turnF,h9]
   generalize (lieF li (j:Int)).getD 0=lf at *
   clear h9
   go_wp2_with fail
   refine (find104 B bf vs fv fl at' 4 (j:Int) 0 _ HX1.out H2.out H3.out (by omega) HO1.out hn).mono ?_
   rintro e w2 ⟨rfl,fv',ho2,hx2,hf2,hm2⟩
   have HP:Hid (∃ fv',Own B 155 4 w2 fv' (fl ++ [turnF li at' j q])∧Box w2 bf 143 (vs.setIfInBounds 203 fv')∧Fr (fun k=>k=bf∨fv.ownBlock=some k) w w2∧Moved w fv fv'):=⟨fv',by rw [HV.out];exact ho2,hx2,HF1.out.trans hf2,hm2.old z1⟩
   clear ho2 hx2 hf2 hm2
   go_wp2_with fail
   refine bodyPost_ret (results_none rfl _ _ _) rfl ?_
   exact ⟨rfl,HP.out⟩
  ·have h9':((lieF li (j:Int)).getD 0 == (q:Int))=false:=by simp [h9]
   have HV:Hid (turnF li at' j q=[at',3,(j:Int),3-(q:Int)]):=by show _=_;simp [turnF,h9]
   generalize (lieF li (j:Int)).getD 0=lf at *
   clear h9
   go_wp2_with fail
   refine (find104 B bf vs fv fl at' 3 (j:Int) (3-(q:Int)) _ HX1.out H2.out H3.out (by omega) HO1.out hn).mono ?_
   rintro e w2 ⟨rfl,fv',ho2,hx2,hf2,hm2⟩
   have HP:Hid (∃ fv',Own B 155 4 w2 fv' (fl ++ [turnF li at' j q])∧Box w2 bf 143 (vs.setIfInBounds 203 fv')∧Fr (fun k=>k=bf∨fv.ownBlock=some k) w w2∧Moved w fv fv'):=⟨fv',by rw [HV.out];exact ho2,hx2,HF1.out.trans hf2,hm2.old z1⟩
   clear ho2 hx2 hf2 hm2
   first
    | (go_end0;exact ⟨rfl,HP.out⟩)
    | (go_wp2_with fail
       first
        | (go_end0;exact ⟨rfl,HP.out⟩)
        | (refine bodyPost_ret (results_none rfl _ _ _) rfl ?_;exact ⟨rfl,HP.out⟩))
def set6 (w:World)(b:Nat)(a0 a1 a2 a3 a4 a5:Value):World:=(((((w.setCell ⟨b,0,none⟩ a0).setCell ⟨b,1,none⟩ a1).setCell ⟨b,2,none⟩ a2).setCell ⟨b,3,none⟩ a3).setCell ⟨b,4,none⟩ a4).setCell ⟨b,5,none⟩ a5
theorem Fr.set6 {X:Nat→Prop}{w:World}{b:Nat}(hb:X b)(a0 a1 a2 a3 a4 a5:Value):Fr X w (set6 w b a0 a1 a2 a3 a4 a5):=
 (((((Fr.set ⟨b,0,none⟩ a0 hb).trans (Fr.set ⟨b,1,none⟩ a1 hb)).trans (Fr.set ⟨b,2,none⟩ a2 hb)).trans (Fr.set ⟨b,3,none⟩ a3 hb)).trans (Fr.set ⟨b,4,none⟩ a4 hb)).trans (Fr.set ⟨b,5,none⟩ a5 hb)
theorem Box.set6 {w:World}{b:Nat}{T:TypeId}{b0 b1 b2 b3 b4 b5:Value}(h:Box w b T #[b0,b1,b2,b3,b4,b5])(a0 a1 a2 a3 a4 a5:Value):Box (set6 w b a0 a1 a2 a3 a4 a5) b T #[a0,a1,a2,a3,a4,a5]:=by
 have:=(((((h.set 0 a0).set 1 a1).set 2 a2).set 3 a3).set 4 a4).set 5 a5
 unfold YtkhaehpobpkkiaaGreat.set6
 simpa using this
theorem Own.set6 {B:Nat}{e:TypeId}{c:Nat}{w:World}{v:Value}{l:List Rw}{b:Nat}{T:TypeId}{vs:Array Value}(h:Own B e c w v l)(hb:Box w b T vs)(hT:T≠e)(a0 a1 a2 a3 a4 a5:Value):Own B e c (set6 w b a0 a1 a2 a3 a4 a5) v l:=
 h.keep lr fun g hg=>(Fr.set6 (X:=fun k=>k=b) rfl a0 a1 a2 a3 a4 a5).block g (h.lt hg).2 (h.off hb hT hg)
set_option maxRecDepth 100000 in
set_option maxHeartbeats 4000000 in
theorem over100_plain (sa pa la xa:Option Addr)(sn sc pn pc ln lc xn xc:Nat)(tv:Int)(dn:Bool)(j q x:Nat)(w:World):
 Calls Tryz.prog 100 #[.agg #[.slice sa sn sc,.slice pa pn pc,.slice la ln lc,.slice xa xn xc,.int .i64 tv,.bool dn],kindV 2,.agg #[.int .i64 (j:Int),.int .i64 (q:Int)],.int .i64 (x:Int)] w fun e w'=>e=.returned (.tuple #[.agg #[.slice sa sn sc,.slice pa pn pc,.slice la ln lc,.slice xa xn xc,.int .i64 tv,.bool dn],.bool true])∧Below w.heap.size w w':=by
 rw [show kindV 2=.iface 198 (.agg #[]) from rfl]
 have t1:=ta98_99
 have t2:=ta98_100
 go_enter Tryz.func100,Tryz.ntmps100
 go_wp2_with fail
 exact bodyPost_ret (v:=.tuple #[.agg #[.slice sa sn sc,.slice pa pn pc,.slice la ln lc,.slice xa xn xc,.int .i64 tv,.bool dn],.bool true]) (by simp [results,Tryz.results100,go_sem]) rfl ⟨rfl,((bel2 _ _ _).alloc (bel2 _ _ _).size _)⟩
set_option maxRecDepth 100000 in
set_option maxHeartbeats 8000000 in
theorem over100_cross (B:Nat)(sa pa la xa:Option Addr)(sn sc pn pc ln lc xc:Nat)(cr:List Rw)(tv:Int)(dn:Bool)(j q x:Nat)(w:World)(hB:B≤w.heap.size)(ho:Own B 3 1 w (.slice xa cr.length xc) cr)(hn:cr.length≤1048575):
 Calls Tryz.prog 100 #[.agg #[.slice sa sn sc,.slice pa pn pc,.slice la ln lc,.slice xa cr.length xc,.int .i64 tv,.bool dn],kindV 4,.agg #[.int .i64 (j:Int),.int .i64 (q:Int)],.int .i64 (x:Int)] w fun e w'=>∃ xv,e=.returned (.tuple #[.agg #[.slice sa sn sc,.slice pa pn pc,.slice la ln lc,xv,.int .i64 tv,.bool dn],.bool true])∧Own B 3 1 w' xv (cr ++ [[(j:Int)]])∧Own B 3 1 w' (.slice xa cr.length xc) cr∧Fr (fun k=>(Value.slice xa cr.length xc).ownBlock=some k) w w'∧Moved w (.slice xa cr.length xc) xv:=by
 rw [show kindV 4=.iface 193 (.agg #[]) from rfl]
 have t1:=ta100_99
 have t2:=ta100_100
 obtain ⟨i5,e51,e52,e53,e54⟩:=info_parts infoInt
 have HO:Hid (Own B 3 1 w (.slice xa cr.length xc) cr):=ho
 clear ho
 go_enter Tryz.func100,Tryz.ntmps100
 go_wp2_with (at_builtin;go_must (refine wpList_appH _ rfl (.tmp 16) (.tmp 19) 60 rfl B 3 i5 _ 1 8 Tryz.underlying60 e51 e52 e53 e54 rfl (by decide) _ cr rfl ((((HO.out.alloc _).alloc _).alloc _).alloc _) ⟨w.heap.size+1+1+1,0,none⟩ 1 1 [[(j:Int)]] rfl rfl (by decide) (Wide.one rfl) (news_at [(j:Int)] (by simp)) (by simp [maxLen];omega) (by omega) (by simp;omega) ?_))
 refine Halt.mk fun v1 w1 ho1 hs1 hap=>?_
 obtain ⟨a1,c1,rfl⟩:=ho1.val
 rw [List.length_append] at ho1 hap ⊢
 have HMV:Hid (Moved w (.slice xa cr.length xc) (.slice a1 (cr.length+1) c1)):=Moved.old hap.moved (by simp;omega)
 have W0:Below w.heap.size w ((((w.alloc (.cells #[.slice sa sn sc,.slice pa pn pc,.slice la ln lc,.slice xa cr.length xc,.int .i64 tv,.bool dn] 78)).alloc (.cells #[.int .i64 (j:Int),.int .i64 (q:Int)] 128)).alloc (.cells #[.slice none 0 0,.slice none 0 0,.slice none 0 0,.slice none 0 0,.int .i64 0,.bool false] 78)).alloc (.cells #[.int .i64 (j:Int)] 3)):=(((bel2 _ _ _).alloc (bel2 _ _ _).size _).alloc ((bel2 _ _ _).alloc (bel2 _ _ _).size _).size _)
 have q0:Box w1 w.heap.size 78 #[.slice sa sn sc,.slice pa pn pc,.slice la ln lc,.slice xa cr.length xc,.int .i64 tv,.bool dn]:=((((Box.new w 78 _).alloc _).alloc _).alloc _).grown hap.fr (fun e=>by have:=(HO.out.lt e).2;omega)
 have q2:Box w1 (w.heap.size+1+1) 78 #[.slice none 0 0,.slice none 0 0,.slice none 0 0,.slice none 0 0,.int .i64 0,.bool false]:=(Box.alloc (by have:=Box.new ((w.alloc (.cells #[.slice sa sn sc,.slice pa pn pc,.slice la ln lc,.slice xa cr.length xc,.int .i64 tv,.bool dn] 78)).alloc (.cells #[.int .i64 (j:Int),.int .i64 (q:Int)] 128)) 78 #[.slice none 0 0,.slice none 0 0,.slice none 0 0,.slice none 0 0,.int .i64 0,.bool false];simpa using this) _).grown hap.fr (fun e=>by have:=(HO.out.lt e).2;omega)
 have HF:Hid (Fr (fun k=>(Value.slice xa cr.length xc).ownBlock=some k) w w1):=(Fr.of_below (X:=fun k=>(Value.slice xa cr.length xc).ownBlock=some k) W0).trans (Fr.of_grown hap.fr (fun k e _=>e))
 have HO1:Hid (Own B 3 1 w1 (.slice a1 (cr.length+1) c1) (cr ++ [[(j:Int)]])):=ho1
 have HS1:Hid (Own B 3 1 w1 (.slice xa cr.length xc) cr):=hs1
 have HQ0:Hid (Box w1 w.heap.size 78 #[.slice sa sn sc,.slice pa pn pc,.slice la ln lc,.slice xa cr.length xc,.int .i64 tv,.bool dn]):=q0
 have HQ2:Hid (Box w1 (w.heap.size+1+1) 78 #[.slice none 0 0,.slice none 0 0,.slice none 0 0,.slice none 0 0,.int .i64 0,.bool false]):=q2
 have x0:=q0.cell 0
 have x1:=q0.cell 1
 have x2:=q0.cell 2
 have x3:=q0.cell 3
 have x4:=q0.cell 4
 have x5:=q0.cell 5
 have y0:=q2.cell 0
 have y1:=q2.cell 1
 have y2:=q2.cell 2
 have y3:=q2.cell 3
 have y4:=q2.cell 4
 have y5:=q2.cell 5
 simp only [List.getElem?_toArray,List.getElem?_cons_zero,List.getElem?_cons_succ] at x0 x1 x2 x3 x4 x5 y0 y1 y2 y3 y4 y5
 have f0:=q0.free 3
 have z0:=q2.free 0
 have z1:=q2.free 1
 have z2:=q2.free 2
 have z3:=q2.free 3
 have z4:=q2.free 4
 have z5:=q2.free 5
 clear W0 hap ho1 hs1 q0 q2 HO
 go_wp2_with fail
 have hfin:Fr (fun k=>w.heap.size≤k) w1 (set6 (w1.setCell ⟨w.heap.size,3,none⟩ (.slice a1 (cr.length+1) c1)) (w.heap.size+1+1) (.slice sa sn sc) (.slice pa pn pc) (.slice la ln lc) (.slice a1 (cr.length+1) c1) (.int .i64 tv) (.bool dn)):=(Fr.set (X:=fun k=>w.heap.size≤k) _ _ lr).trans (Fr.set6 (X:=fun k=>w.heap.size≤k) (by omega) _ _ _ _ _ _)
 have hq3:=HQ2.out.other (p:=⟨w.heap.size,3,none⟩) (by simp;omega) (.slice a1 (cr.length+1) c1)
 refine bodyPost_ret (v:=.tuple #[.agg #[.slice sa sn sc,.slice pa pn pc,.slice la ln lc,.slice a1 (cr.length+1) c1,.int .i64 tv,.bool dn],.bool true]) ?_ rfl ⟨.slice a1 (cr.length+1) c1,rfl,(HO1.out.set HQ0.out (by decide) 3 _).set6 hq3 (by decide) _ _ _ _ _ _,(HS1.out.set HQ0.out (by decide) 3 _).set6 hq3 (by decide) _ _ _ _ _ _,HF.out.then hfin (by intro i hi hy;omega),HMV.out⟩
 have kq:=hq3.set6 (.slice sa sn sc) (.slice pa pn pc) (.slice la ln lc) (.slice a1 (cr.length+1) c1) (.int .i64 tv) (.bool dn)
 generalize hwf:set6 (w1.setCell ⟨w.heap.size,3,none⟩ (.slice a1 (cr.length+1) c1)) (w.heap.size+1+1) (.slice sa sn sc) (.slice pa pn pc) (.slice la ln lc) (.slice a1 (cr.length+1) c1) (.int .i64 tv) (.bool dn)=wf at *
 simp only [set6] at hwf
 rw [hwf]
 have k0:=kq.cell 0
 have k1:=kq.cell 1
 have k2:=kq.cell 2
 have k3:=kq.cell 3
 have k4:=kq.cell 4
 have k5:=kq.cell 5
 simp only [List.getElem?_toArray,List.getElem?_cons_zero,List.getElem?_cons_succ] at k0 k1 k2 k3 k4 k5
 simp [results,Tryz.results100,go_sem,k0,k1,k2,k3,k4,k5]
set_option maxRecDepth 100000 in
set_option maxHeartbeats 8000000 in
theorem over100_samea (sa pa la xa:Option Addr)(sn sc pn pc lc xn xc:Nat)(li:List Rw)(tv:Int)(dn:Bool)(j q x:Nat)(w:World)(hl:LsAt 2 0 w (.slice la li.length lc) li)(hn:li.length≤1048575)(hqx:q<x)(h0:(lieF li (j:Int)).getD 0=(x:Int))(h1:0<x):
 Calls Tryz.prog 100 #[.agg #[.slice sa sn sc,.slice pa pn pc,.slice la li.length lc,.slice xa xn xc,.int .i64 tv,.bool dn],kindV 3,.agg #[.int .i64 (j:Int),.int .i64 (q:Int)],.int .i64 (x:Int)] w fun e w'=>e=.returned (.tuple #[.agg #[.slice sa sn sc,.slice pa pn pc,.slice la li.length lc,.slice xa xn xc,.int .i64 tv,.bool dn],.bool true])∧Below w.heap.size w w':=by
 rw [show kindV 3=.iface 194 (.agg #[]) from rfl]
 have t1:=ta99_99
 have t2:=ta99_100
 have HL:Hid (LsAt 2 0 w (.slice la li.length lc) li):=hl
 have hqx':(q:Int)<(x:Int):=by omega
 clear hl
 go_enter Tryz.func100,Tryz.ntmps100
 go_wp2_with fail
 have b0:Below w.heap.size w (((w.alloc (.cells #[.slice sa sn sc,.slice pa pn pc,.slice la li.length lc,.slice xa xn xc,.int .i64 tv,.bool dn] 78)).alloc (.cells #[.int .i64 (j:Int),.int .i64 (q:Int)] 128)).alloc (.cells #[.slice none 0 0,.slice none 0 0,.slice none 0 0,.slice none 0 0,.int .i64 0,.bool false] 78)):=((bel2 _ _ _).alloc (bel2 _ _ _).size _)
 have q0:Box (((w.alloc (.cells #[.slice sa sn sc,.slice pa pn pc,.slice la li.length lc,.slice xa xn xc,.int .i64 tv,.bool dn] 78)).alloc (.cells #[.int .i64 (j:Int),.int .i64 (q:Int)] 128)).alloc (.cells #[.slice none 0 0,.slice none 0 0,.slice none 0 0,.slice none 0 0,.int .i64 0,.bool false] 78)) w.heap.size 78 #[.slice sa sn sc,.slice pa pn pc,.slice la li.length lc,.slice xa xn xc,.int .i64 tv,.bool dn]:=((Box.new w 78 _).alloc _).alloc _
 have q1:Box (((w.alloc (.cells #[.slice sa sn sc,.slice pa pn pc,.slice la li.length lc,.slice xa xn xc,.int .i64 tv,.bool dn] 78)).alloc (.cells #[.int .i64 (j:Int),.int .i64 (q:Int)] 128)).alloc (.cells #[.slice none 0 0,.slice none 0 0,.slice none 0 0,.slice none 0 0,.int .i64 0,.bool false] 78)) (w.heap.size+1) 128 #[.int .i64 (j:Int),.int .i64 (q:Int)]:=Box.alloc (by have:=Box.new (w.alloc (.cells #[.slice sa sn sc,.slice pa pn pc,.slice la li.length lc,.slice xa xn xc,.int .i64 tv,.bool dn] 78)) 128 #[.int .i64 (j:Int),.int .i64 (q:Int)];simpa using this) _
 have q2:Box (((w.alloc (.cells #[.slice sa sn sc,.slice pa pn pc,.slice la li.length lc,.slice xa xn xc,.int .i64 tv,.bool dn] 78)).alloc (.cells #[.int .i64 (j:Int),.int .i64 (q:Int)] 128)).alloc (.cells #[.slice none 0 0,.slice none 0 0,.slice none 0 0,.slice none 0 0,.int .i64 0,.bool false] 78)) (w.heap.size+1+1) 78 #[.slice none 0 0,.slice none 0 0,.slice none 0 0,.slice none 0 0,.int .i64 0,.bool false]:=by have:=Box.new ((w.alloc (.cells #[.slice sa sn sc,.slice pa pn pc,.slice la li.length lc,.slice xa xn xc,.int .i64 tv,.bool dn] 78)).alloc (.cells #[.int .i64 (j:Int),.int .i64 (q:Int)] 128)) 78 #[.slice none 0 0,.slice none 0 0,.slice none 0 0,.slice none 0 0,.int .i64 0,.bool false];simpa using this
 refine (lieOf117 (.slice la li.length lc) li (j:Int) _ (HL.out.mono lr b0 lr) (by omega)).mono ?_
 rintro e w1 ⟨rfl,hb1⟩
 have HB1:Hid (Below w.heap.size w w1):=b0.trans (hb1.mono b0.size)
 replace q0:=q0.mono hb1 lr
 replace q1:=q1.mono hb1 lr
 replace q2:=q2.mono hb1 lr
 rw [h0]
 have g0:((x:Int) == 0)=false:=by simp;omega
 have x0:=q0.cell 0
 have x1:=q0.cell 1
 have x2:=q0.cell 2
 have x3:=q0.cell 3
 have x4:=q0.cell 4
 have x5:=q0.cell 5
 have y0:=q2.cell 0
 have y1:=q2.cell 1
 have y2:=q2.cell 2
 have y3:=q2.cell 3
 have y4:=q2.cell 4
 have y5:=q2.cell 5
 have u0:=q1.cell 0
 have u1:=q1.cell 1
 simp only [List.getElem?_toArray,List.getElem?_cons_zero,List.getElem?_cons_succ] at x0 x1 x2 x3 x4 x5 y0 y1 y2 y3 y4 y5 u0 u1
 have f0:=q0.free 2
 have z0:=q2.free 0
 have z1:=q2.free 1
 have z2:=q2.free 2
 have z3:=q2.free 3
 have z4:=q2.free 4
 have z5:=q2.free 5
 have HQ0:Hid (Box w1 w.heap.size 78 #[.slice sa sn sc,.slice pa pn pc,.slice la li.length lc,.slice xa xn xc,.int .i64 tv,.bool dn]):=q0
 have HQ2:Hid (Box w1 (w.heap.size+1+1) 78 #[.slice none 0 0,.slice none 0 0,.slice none 0 0,.slice none 0 0,.int .i64 0,.bool false]):=q2
 clear q0 q1 q2 h0 hb1 b0
 go_wp2_with fail
 have hfin:Fr (fun k=>w.heap.size≤k) w1 (set6 w1 (w.heap.size+1+1) (.slice sa sn sc) (.slice pa pn pc) (.slice la li.length lc) (.slice xa xn xc) (.int .i64 tv) (.bool dn)):=Fr.set6 (X:=fun k=>w.heap.size≤k) (by omega) _ _ _ _ _ _
 have hq3:=HQ2.out
 have hbe:=(Fr.of_below (X:=fun _=>False) HB1.out).then hfin (by intro i hi hy;omega)
 refine bodyPost_ret (v:=.tuple #[.agg #[.slice sa sn sc,.slice pa pn pc,.slice la li.length lc,.slice xa xn xc,.int .i64 tv,.bool dn],.bool true]) ?_ rfl ⟨rfl,hbe.below lr (fun _ _ h=>h)⟩
 have kq:=hq3.set6 (.slice sa sn sc) (.slice pa pn pc) (.slice la li.length lc) (.slice xa xn xc) (.int .i64 tv) (.bool dn)
 generalize hwf:set6 w1 (w.heap.size+1+1) (.slice sa sn sc) (.slice pa pn pc) (.slice la li.length lc) (.slice xa xn xc) (.int .i64 tv) (.bool dn)=wf at *
 simp only [set6] at hwf
 rw [hwf]
 have k0:=kq.cell 0
 have k1:=kq.cell 1
 have k2:=kq.cell 2
 have k3:=kq.cell 3
 have k4:=kq.cell 4
 have k5:=kq.cell 5
 simp only [List.getElem?_toArray,List.getElem?_cons_zero,List.getElem?_cons_succ] at k0 k1 k2 k3 k4 k5
 simp [results,Tryz.results100,go_sem,k0,k1,k2,k3,k4,k5]
set_option maxRecDepth 100000 in
set_option maxHeartbeats 8000000 in
theorem over100_bada (sa pa la xa:Option Addr)(sn sc pn pc lc xn xc:Nat)(li:List Rw)(tv:Int)(dn:Bool)(j q x:Nat)(w:World)(hl:LsAt 2 0 w (.slice la li.length lc) li)(hn:li.length≤1048575)(hqx:q<x)(h0:(lieF li (j:Int)).getD 0≠0)(h1:(lieF li (j:Int)).getD 0≠(x:Int)):
 Calls Tryz.prog 100 #[.agg #[.slice sa sn sc,.slice pa pn pc,.slice la li.length lc,.slice xa xn xc,.int .i64 tv,.bool dn],kindV 3,.agg #[.int .i64 (j:Int),.int .i64 (q:Int)],.int .i64 (x:Int)] w fun e w'=>e=.returned (.tuple #[.agg #[.slice none 0 0,.slice none 0 0,.slice none 0 0,.slice none 0 0,.int .i64 0,.bool false],.bool false])∧Below w.heap.size w w':=by
 rw [show kindV 3=.iface 194 (.agg #[]) from rfl]
 have t1:=ta99_99
 have t2:=ta99_100
 have HL:Hid (LsAt 2 0 w (.slice la li.length lc) li):=hl
 have hqx':(q:Int)<(x:Int):=by omega
 clear hl
 go_enter Tryz.func100,Tryz.ntmps100
 go_wp2_with fail
 have b0:Below w.heap.size w (((w.alloc (.cells #[.slice sa sn sc,.slice pa pn pc,.slice la li.length lc,.slice xa xn xc,.int .i64 tv,.bool dn] 78)).alloc (.cells #[.int .i64 (j:Int),.int .i64 (q:Int)] 128)).alloc (.cells #[.slice none 0 0,.slice none 0 0,.slice none 0 0,.slice none 0 0,.int .i64 0,.bool false] 78)):=((bel2 _ _ _).alloc (bel2 _ _ _).size _)
 have q0:Box (((w.alloc (.cells #[.slice sa sn sc,.slice pa pn pc,.slice la li.length lc,.slice xa xn xc,.int .i64 tv,.bool dn] 78)).alloc (.cells #[.int .i64 (j:Int),.int .i64 (q:Int)] 128)).alloc (.cells #[.slice none 0 0,.slice none 0 0,.slice none 0 0,.slice none 0 0,.int .i64 0,.bool false] 78)) w.heap.size 78 #[.slice sa sn sc,.slice pa pn pc,.slice la li.length lc,.slice xa xn xc,.int .i64 tv,.bool dn]:=((Box.new w 78 _).alloc _).alloc _
 have q1:Box (((w.alloc (.cells #[.slice sa sn sc,.slice pa pn pc,.slice la li.length lc,.slice xa xn xc,.int .i64 tv,.bool dn] 78)).alloc (.cells #[.int .i64 (j:Int),.int .i64 (q:Int)] 128)).alloc (.cells #[.slice none 0 0,.slice none 0 0,.slice none 0 0,.slice none 0 0,.int .i64 0,.bool false] 78)) (w.heap.size+1) 128 #[.int .i64 (j:Int),.int .i64 (q:Int)]:=Box.alloc (by have:=Box.new (w.alloc (.cells #[.slice sa sn sc,.slice pa pn pc,.slice la li.length lc,.slice xa xn xc,.int .i64 tv,.bool dn] 78)) 128 #[.int .i64 (j:Int),.int .i64 (q:Int)];simpa using this) _
 have q2:Box (((w.alloc (.cells #[.slice sa sn sc,.slice pa pn pc,.slice la li.length lc,.slice xa xn xc,.int .i64 tv,.bool dn] 78)).alloc (.cells #[.int .i64 (j:Int),.int .i64 (q:Int)] 128)).alloc (.cells #[.slice none 0 0,.slice none 0 0,.slice none 0 0,.slice none 0 0,.int .i64 0,.bool false] 78)) (w.heap.size+1+1) 78 #[.slice none 0 0,.slice none 0 0,.slice none 0 0,.slice none 0 0,.int .i64 0,.bool false]:=by have:=Box.new ((w.alloc (.cells #[.slice sa sn sc,.slice pa pn pc,.slice la li.length lc,.slice xa xn xc,.int .i64 tv,.bool dn] 78)).alloc (.cells #[.int .i64 (j:Int),.int .i64 (q:Int)] 128)) 78 #[.slice none 0 0,.slice none 0 0,.slice none 0 0,.slice none 0 0,.int .i64 0,.bool false];simpa using this
 refine (lieOf117 (.slice la li.length lc) li (j:Int) _ (HL.out.mono lr b0 lr) (by omega)).mono ?_
 rintro e w1 ⟨rfl,hb1⟩
 have HB1:Hid (Below w.heap.size w w1):=b0.trans (hb1.mono b0.size)
 replace q0:=q0.mono hb1 lr
 replace q1:=q1.mono hb1 lr
 replace q2:=q2.mono hb1 lr
 have g0:((lieF li (j:Int)).getD 0 == 0)=false:=by simp [h0]
 have g1:((lieF li (j:Int)).getD 0 == (x:Int))=false:=by simp [h1]
 generalize (lieF li (j:Int)).getD 0=lf at *
 have x0:=q0.cell 0
 have x1:=q0.cell 1
 have x2:=q0.cell 2
 have x3:=q0.cell 3
 have x4:=q0.cell 4
 have x5:=q0.cell 5
 have y0:=q2.cell 0
 have y1:=q2.cell 1
 have y2:=q2.cell 2
 have y3:=q2.cell 3
 have y4:=q2.cell 4
 have y5:=q2.cell 5
 have u0:=q1.cell 0
 have u1:=q1.cell 1
 simp only [List.getElem?_toArray,List.getElem?_cons_zero,List.getElem?_cons_succ] at x0 x1 x2 x3 x4 x5 y0 y1 y2 y3 y4 y5 u0 u1
 have f0:=q0.free 2
 have z0:=q2.free 0
 have z1:=q2.free 1
 have z2:=q2.free 2
 have z3:=q2.free 3
 have z4:=q2.free 4
 have z5:=q2.free 5
 have HQ0:Hid (Box w1 w.heap.size 78 #[.slice sa sn sc,.slice pa pn pc,.slice la li.length lc,.slice xa xn xc,.int .i64 tv,.bool dn]):=q0
 have HQ2:Hid (Box w1 (w.heap.size+1+1) 78 #[.slice none 0 0,.slice none 0 0,.slice none 0 0,.slice none 0 0,.int .i64 0,.bool false]):=q2
 clear q0 q1 q2 h0 h1 hb1 b0
 go_wp2_with fail
 have hfin:Fr (fun k=>w.heap.size≤k) w1 (set6 w1 (w.heap.size+1+1) (.slice none 0 0) (.slice none 0 0) (.slice none 0 0) (.slice none 0 0) (.int .i64 0) (.bool false)):=Fr.set6 (X:=fun k=>w.heap.size≤k) (by omega) _ _ _ _ _ _
 have hq3:=HQ2.out
 have hbe:=(Fr.of_below (X:=fun _=>False) HB1.out).then hfin (by intro i hi hy;omega)
 refine bodyPost_ret (v:=.tuple #[.agg #[.slice none 0 0,.slice none 0 0,.slice none 0 0,.slice none 0 0,.int .i64 0,.bool false],.bool false]) ?_ rfl ⟨rfl,hbe.below lr (fun _ _ h=>h)⟩
 have kq:=hq3.set6 (.slice none 0 0) (.slice none 0 0) (.slice none 0 0) (.slice none 0 0) (.int .i64 0) (.bool false)
 generalize hwf:set6 w1 (w.heap.size+1+1) (.slice none 0 0) (.slice none 0 0) (.slice none 0 0) (.slice none 0 0) (.int .i64 0) (.bool false)=wf at *
 simp only [set6] at hwf
 rw [hwf]
 have k0:=kq.cell 0
 have k1:=kq.cell 1
 have k2:=kq.cell 2
 have k3:=kq.cell 3
 have k4:=kq.cell 4
 have k5:=kq.cell 5
 simp only [List.getElem?_toArray,List.getElem?_cons_zero,List.getElem?_cons_succ] at k0 k1 k2 k3 k4 k5
 simp [results,Tryz.results100,go_sem,k0,k1,k2,k3,k4,k5]
set_option maxRecDepth 100000 in
set_option maxHeartbeats 8000000 in
theorem over100_newa (B:Nat)(sa pa la xa:Option Addr)(sn sc pn pc lc xn xc:Nat)(li:List Rw)(tv:Int)(dn:Bool)(j q x:Nat)(w:World)(hB:B≤w.heap.size)(ho:Own B 136 2 w (.slice la li.length lc) li)(hn:li.length≤1048575)(hqx:q<x)(h0:(lieF li (j:Int)).getD 0=0):
 Calls Tryz.prog 100 #[.agg #[.slice sa sn sc,.slice pa pn pc,.slice la li.length lc,.slice xa xn xc,.int .i64 tv,.bool dn],kindV 3,.agg #[.int .i64 (j:Int),.int .i64 (q:Int)],.int .i64 (x:Int)] w fun e w'=>∃ lv,e=.returned (.tuple #[.agg #[.slice sa sn sc,.slice pa pn pc,lv,.slice xa xn xc,.int .i64 tv,.bool dn],.bool true])∧Own B 136 2 w' lv (li ++ [[(j:Int),(x:Int)]])∧Own B 136 2 w' (.slice la li.length lc) li∧Fr (fun k=>(Value.slice la li.length lc).ownBlock=some k) w w'∧Moved w (.slice la li.length lc) lv:=by
 have HO:Hid (Own B 136 2 w (.slice la li.length lc) li):=ho
 have hl:LsAt 2 0 w (.slice la li.length lc) li:=ho.ls.keep zl lr (fun _ _=>rfl)
 clear ho
 obtain ⟨i5,e51,e52,e53,e54⟩:=info_parts infoLie
 rw [show kindV 3=.iface 194 (.agg #[]) from rfl]
 have t1:=ta99_99
 have t2:=ta99_100
 have HL:Hid (LsAt 2 0 w (.slice la li.length lc) li):=hl
 have hqx':(q:Int)<(x:Int):=by omega
 clear hl
 go_enter Tryz.func100,Tryz.ntmps100
 go_wp2_with fail
 have b0:Below w.heap.size w (((w.alloc (.cells #[.slice sa sn sc,.slice pa pn pc,.slice la li.length lc,.slice xa xn xc,.int .i64 tv,.bool dn] 78)).alloc (.cells #[.int .i64 (j:Int),.int .i64 (q:Int)] 128)).alloc (.cells #[.slice none 0 0,.slice none 0 0,.slice none 0 0,.slice none 0 0,.int .i64 0,.bool false] 78)):=((bel2 _ _ _).alloc (bel2 _ _ _).size _)
 have q0:Box (((w.alloc (.cells #[.slice sa sn sc,.slice pa pn pc,.slice la li.length lc,.slice xa xn xc,.int .i64 tv,.bool dn] 78)).alloc (.cells #[.int .i64 (j:Int),.int .i64 (q:Int)] 128)).alloc (.cells #[.slice none 0 0,.slice none 0 0,.slice none 0 0,.slice none 0 0,.int .i64 0,.bool false] 78)) w.heap.size 78 #[.slice sa sn sc,.slice pa pn pc,.slice la li.length lc,.slice xa xn xc,.int .i64 tv,.bool dn]:=((Box.new w 78 _).alloc _).alloc _
 have q1:Box (((w.alloc (.cells #[.slice sa sn sc,.slice pa pn pc,.slice la li.length lc,.slice xa xn xc,.int .i64 tv,.bool dn] 78)).alloc (.cells #[.int .i64 (j:Int),.int .i64 (q:Int)] 128)).alloc (.cells #[.slice none 0 0,.slice none 0 0,.slice none 0 0,.slice none 0 0,.int .i64 0,.bool false] 78)) (w.heap.size+1) 128 #[.int .i64 (j:Int),.int .i64 (q:Int)]:=Box.alloc (by have:=Box.new (w.alloc (.cells #[.slice sa sn sc,.slice pa pn pc,.slice la li.length lc,.slice xa xn xc,.int .i64 tv,.bool dn] 78)) 128 #[.int .i64 (j:Int),.int .i64 (q:Int)];simpa using this) _
 have q2:Box (((w.alloc (.cells #[.slice sa sn sc,.slice pa pn pc,.slice la li.length lc,.slice xa xn xc,.int .i64 tv,.bool dn] 78)).alloc (.cells #[.int .i64 (j:Int),.int .i64 (q:Int)] 128)).alloc (.cells #[.slice none 0 0,.slice none 0 0,.slice none 0 0,.slice none 0 0,.int .i64 0,.bool false] 78)) (w.heap.size+1+1) 78 #[.slice none 0 0,.slice none 0 0,.slice none 0 0,.slice none 0 0,.int .i64 0,.bool false]:=by have:=Box.new ((w.alloc (.cells #[.slice sa sn sc,.slice pa pn pc,.slice la li.length lc,.slice xa xn xc,.int .i64 tv,.bool dn] 78)).alloc (.cells #[.int .i64 (j:Int),.int .i64 (q:Int)] 128)) 78 #[.slice none 0 0,.slice none 0 0,.slice none 0 0,.slice none 0 0,.int .i64 0,.bool false];simpa using this
 refine (lieOf117 (.slice la li.length lc) li (j:Int) _ (HL.out.mono lr b0 lr) (by omega)).mono ?_
 rintro e w1 ⟨rfl,hb1⟩
 have HB1:Hid (Below w.heap.size w w1):=b0.trans (hb1.mono b0.size)
 replace q0:=q0.mono hb1 lr
 replace q1:=q1.mono hb1 lr
 replace q2:=q2.mono hb1 lr
 rw [h0]
 have HO1:Hid (Own B 136 2 w1 (.slice la li.length lc) li):=HO.out.mono lr HB1.out lr
 have hs1:=HB1.out.size
 have u0:=q1.cell 0
 have u1:=q1.cell 1
 have x2:=q0.cell 2
 simp only [List.getElem?_toArray,List.getElem?_cons_zero,List.getElem?_cons_succ] at x2 u0 u1
 have HP0:Hid (Box w1 w.heap.size 78 #[.slice sa sn sc,.slice pa pn pc,.slice la li.length lc,.slice xa xn xc,.int .i64 tv,.bool dn]):=q0
 have HP2:Hid (Box w1 (w.heap.size+1+1) 78 #[.slice none 0 0,.slice none 0 0,.slice none 0 0,.slice none 0 0,.int .i64 0,.bool false]):=q2
 clear q0 q1 q2 h0 hb1 b0
 go_wp2_with (at_builtin;go_must (refine wpList_appH _ rfl (.tmp 38) (.tmp 43) 59 rfl B 136 i5 _ 2 16 Tryz.underlying59 e51 e52 e53 e54 rfl (by decide) _ li rfl (HO1.out.alloc _) ⟨w1.heap.size,0,none⟩ 1 1 [[(j:Int),(x:Int)]] rfl rfl (by decide) (Wide.one rfl) (news_at [(j:Int),(x:Int)] rfl) (by simp [maxLen];omega) (by omega) (by simp;omega) ?_))
 refine Halt.mk fun v1 w1x ho1 hs1x hap=>?_
 obtain ⟨a1,c1,rfl⟩:=ho1.val
 rw [List.length_append] at ho1 hap ⊢
 have HMV:Hid (Moved w (.slice la li.length lc) (.slice a1 (li.length+1) c1)):=Moved.old hap.moved (by simp;omega)
 have q0:Box w1x w.heap.size 78 #[.slice sa sn sc,.slice pa pn pc,.slice la li.length lc,.slice xa xn xc,.int .i64 tv,.bool dn]:=(HP0.out.alloc _).grown hap.fr (fun e=>by have:=(HO.out.lt e).2;omega)
 have q2:Box w1x (w.heap.size+1+1) 78 #[.slice none 0 0,.slice none 0 0,.slice none 0 0,.slice none 0 0,.int .i64 0,.bool false]:=(HP2.out.alloc _).grown hap.fr (fun e=>by have:=(HO.out.lt e).2;omega)
 have HF:Hid (Fr (fun k=>(Value.slice la li.length lc).ownBlock=some k) w w1x):=(Fr.of_below (X:=fun k=>(Value.slice la li.length lc).ownBlock=some k) (HB1.out.alloc hs1 _)).trans (Fr.of_grown hap.fr (fun k e _=>e))
 have HN1:Hid (Own B 136 2 w1x (.slice a1 (li.length+1) c1) (li ++ [[(j:Int),(x:Int)]])):=ho1
 have HS1:Hid (Own B 136 2 w1x (.slice la li.length lc) li):=hs1x
 clear u0 u1 x2
 have x0:=q0.cell 0
 have x1:=q0.cell 1
 have x2:=q0.cell 2
 have x3:=q0.cell 3
 have x4:=q0.cell 4
 have x5:=q0.cell 5
 have y0:=q2.cell 0
 have y1:=q2.cell 1
 have y2:=q2.cell 2
 have y3:=q2.cell 3
 have y4:=q2.cell 4
 have y5:=q2.cell 5
 have f0:=q0.free 2
 have z0:=q2.free 0
 have z1:=q2.free 1
 have z2:=q2.free 2
 have z3:=q2.free 3
 have z4:=q2.free 4
 have z5:=q2.free 5
 simp only [List.getElem?_toArray,List.getElem?_cons_zero,List.getElem?_cons_succ] at x0 x1 x2 x3 x4 x5 y0 y1 y2 y3 y4 y5
 have HQ0:Hid (Box w1x w.heap.size 78 #[.slice sa sn sc,.slice pa pn pc,.slice la li.length lc,.slice xa xn xc,.int .i64 tv,.bool dn]):=q0
 have HQ2:Hid (Box w1x (w.heap.size+1+1) 78 #[.slice none 0 0,.slice none 0 0,.slice none 0 0,.slice none 0 0,.int .i64 0,.bool false]):=q2
 clear hap ho1 hs1x q0 q2 HO HP0 HP2 HO1
 go_wp2_with fail
 have hfin:Fr (fun k=>w.heap.size≤k) w1x (set6 (w1x.setCell ⟨w.heap.size,2,none⟩ (.slice a1 (li.length+1) c1)) (w.heap.size+1+1) (.slice sa sn sc) (.slice pa pn pc) (.slice a1 (li.length+1) c1) (.slice xa xn xc) (.int .i64 tv) (.bool dn)):=(Fr.set (X:=fun k=>w.heap.size≤k) _ _ lr).trans (Fr.set6 (X:=fun k=>w.heap.size≤k) (by omega) _ _ _ _ _ _)
 have hq3:=HQ2.out.other (p:=⟨w.heap.size,2,none⟩) (by simp;omega) (.slice a1 (li.length+1) c1)
 refine bodyPost_ret (v:=.tuple #[.agg #[.slice sa sn sc,.slice pa pn pc,.slice a1 (li.length+1) c1,.slice xa xn xc,.int .i64 tv,.bool dn],.bool true]) ?_ rfl ⟨.slice a1 (li.length+1) c1,rfl,(HN1.out.set HQ0.out (by decide) 2 _).set6 hq3 (by decide) _ _ _ _ _ _,(HS1.out.set HQ0.out (by decide) 2 _).set6 hq3 (by decide) _ _ _ _ _ _,HF.out.then hfin (by intro i hi hy;omega),HMV.out⟩
 have kq:=hq3.set6 (.slice sa sn sc) (.slice pa pn pc) (.slice a1 (li.length+1) c1) (.slice xa xn xc) (.int .i64 tv) (.bool dn)
 generalize hwf:set6 (w1x.setCell ⟨w.heap.size,2,none⟩ (.slice a1 (li.length+1) c1)) (w.heap.size+1+1) (.slice sa sn sc) (.slice pa pn pc) (.slice a1 (li.length+1) c1) (.slice xa xn xc) (.int .i64 tv) (.bool dn)=wf at *
 simp only [set6] at hwf
 rw [hwf]
 have k0:=kq.cell 0
 have k1:=kq.cell 1
 have k2:=kq.cell 2
 have k3:=kq.cell 3
 have k4:=kq.cell 4
 have k5:=kq.cell 5
 simp only [List.getElem?_toArray,List.getElem?_cons_zero,List.getElem?_cons_succ] at k0 k1 k2 k3 k4 k5
 simp [results,Tryz.results100,go_sem,k0,k1,k2,k3,k4,k5]
set_option maxRecDepth 100000 in
set_option maxHeartbeats 8000000 in
theorem over100_sameb (sa pa la xa:Option Addr)(sn sc pn pc lc xn xc:Nat)(li:List Rw)(tv:Int)(dn:Bool)(j q x:Nat)(w:World)(hl:LsAt 2 0 w (.slice la li.length lc) li)(hn:li.length≤1048575)(hqx:¬q<x)(h0:(lieF li (j:Int)).getD 0=(q:Int))(h1:0<q):
 Calls Tryz.prog 100 #[.agg #[.slice sa sn sc,.slice pa pn pc,.slice la li.length lc,.slice xa xn xc,.int .i64 tv,.bool dn],kindV 3,.agg #[.int .i64 (j:Int),.int .i64 (q:Int)],.int .i64 (x:Int)] w fun e w'=>e=.returned (.tuple #[.agg #[.slice sa sn sc,.slice pa pn pc,.slice la li.length lc,.slice xa xn xc,.int .i64 tv,.bool dn],.bool true])∧Below w.heap.size w w':=by
 rw [show kindV 3=.iface 194 (.agg #[]) from rfl]
 have t1:=ta99_99
 have t2:=ta99_100
 have HL:Hid (LsAt 2 0 w (.slice la li.length lc) li):=hl
 have hqx':¬(q:Int)<(x:Int):=by omega
 clear hl
 go_enter Tryz.func100,Tryz.ntmps100
 go_wp2_with fail
 have b0:Below w.heap.size w (((w.alloc (.cells #[.slice sa sn sc,.slice pa pn pc,.slice la li.length lc,.slice xa xn xc,.int .i64 tv,.bool dn] 78)).alloc (.cells #[.int .i64 (j:Int),.int .i64 (q:Int)] 128)).alloc (.cells #[.slice none 0 0,.slice none 0 0,.slice none 0 0,.slice none 0 0,.int .i64 0,.bool false] 78)):=((bel2 _ _ _).alloc (bel2 _ _ _).size _)
 have q0:Box (((w.alloc (.cells #[.slice sa sn sc,.slice pa pn pc,.slice la li.length lc,.slice xa xn xc,.int .i64 tv,.bool dn] 78)).alloc (.cells #[.int .i64 (j:Int),.int .i64 (q:Int)] 128)).alloc (.cells #[.slice none 0 0,.slice none 0 0,.slice none 0 0,.slice none 0 0,.int .i64 0,.bool false] 78)) w.heap.size 78 #[.slice sa sn sc,.slice pa pn pc,.slice la li.length lc,.slice xa xn xc,.int .i64 tv,.bool dn]:=((Box.new w 78 _).alloc _).alloc _
 have q1:Box (((w.alloc (.cells #[.slice sa sn sc,.slice pa pn pc,.slice la li.length lc,.slice xa xn xc,.int .i64 tv,.bool dn] 78)).alloc (.cells #[.int .i64 (j:Int),.int .i64 (q:Int)] 128)).alloc (.cells #[.slice none 0 0,.slice none 0 0,.slice none 0 0,.slice none 0 0,.int .i64 0,.bool false] 78)) (w.heap.size+1) 128 #[.int .i64 (j:Int),.int .i64 (q:Int)]:=Box.alloc (by have:=Box.new (w.alloc (.cells #[.slice sa sn sc,.slice pa pn pc,.slice la li.length lc,.slice xa xn xc,.int .i64 tv,.bool dn] 78)) 128 #[.int .i64 (j:Int),.int .i64 (q:Int)];simpa using this) _
 have q2:Box (((w.alloc (.cells #[.slice sa sn sc,.slice pa pn pc,.slice la li.length lc,.slice xa xn xc,.int .i64 tv,.bool dn] 78)).alloc (.cells #[.int .i64 (j:Int),.int .i64 (q:Int)] 128)).alloc (.cells #[.slice none 0 0,.slice none 0 0,.slice none 0 0,.slice none 0 0,.int .i64 0,.bool false] 78)) (w.heap.size+1+1) 78 #[.slice none 0 0,.slice none 0 0,.slice none 0 0,.slice none 0 0,.int .i64 0,.bool false]:=by have:=Box.new ((w.alloc (.cells #[.slice sa sn sc,.slice pa pn pc,.slice la li.length lc,.slice xa xn xc,.int .i64 tv,.bool dn] 78)).alloc (.cells #[.int .i64 (j:Int),.int .i64 (q:Int)] 128)) 78 #[.slice none 0 0,.slice none 0 0,.slice none 0 0,.slice none 0 0,.int .i64 0,.bool false];simpa using this
 refine (lieOf117 (.slice la li.length lc) li (j:Int) _ (HL.out.mono lr b0 lr) (by omega)).mono ?_
 rintro e w1 ⟨rfl,hb1⟩
 have HB1:Hid (Below w.heap.size w w1):=b0.trans (hb1.mono b0.size)
 replace q0:=q0.mono hb1 lr
 replace q1:=q1.mono hb1 lr
 replace q2:=q2.mono hb1 lr
 rw [h0]
 have g0:((q:Int) == 0)=false:=by simp;omega
 have x0:=q0.cell 0
 have x1:=q0.cell 1
 have x2:=q0.cell 2
 have x3:=q0.cell 3
 have x4:=q0.cell 4
 have x5:=q0.cell 5
 have y0:=q2.cell 0
 have y1:=q2.cell 1
 have y2:=q2.cell 2
 have y3:=q2.cell 3
 have y4:=q2.cell 4
 have y5:=q2.cell 5
 have u0:=q1.cell 0
 have u1:=q1.cell 1
 simp only [List.getElem?_toArray,List.getElem?_cons_zero,List.getElem?_cons_succ] at x0 x1 x2 x3 x4 x5 y0 y1 y2 y3 y4 y5 u0 u1
 have f0:=q0.free 2
 have z0:=q2.free 0
 have z1:=q2.free 1
 have z2:=q2.free 2
 have z3:=q2.free 3
 have z4:=q2.free 4
 have z5:=q2.free 5
 have HQ0:Hid (Box w1 w.heap.size 78 #[.slice sa sn sc,.slice pa pn pc,.slice la li.length lc,.slice xa xn xc,.int .i64 tv,.bool dn]):=q0
 have HQ2:Hid (Box w1 (w.heap.size+1+1) 78 #[.slice none 0 0,.slice none 0 0,.slice none 0 0,.slice none 0 0,.int .i64 0,.bool false]):=q2
 clear q0 q1 q2 h0 hb1 b0
 go_wp2_with fail
 have hfin:Fr (fun k=>w.heap.size≤k) w1 (set6 w1 (w.heap.size+1+1) (.slice sa sn sc) (.slice pa pn pc) (.slice la li.length lc) (.slice xa xn xc) (.int .i64 tv) (.bool dn)):=Fr.set6 (X:=fun k=>w.heap.size≤k) (by omega) _ _ _ _ _ _
 have hq3:=HQ2.out
 have hbe:=(Fr.of_below (X:=fun _=>False) HB1.out).then hfin (by intro i hi hy;omega)
 refine bodyPost_ret (v:=.tuple #[.agg #[.slice sa sn sc,.slice pa pn pc,.slice la li.length lc,.slice xa xn xc,.int .i64 tv,.bool dn],.bool true]) ?_ rfl ⟨rfl,hbe.below lr (fun _ _ h=>h)⟩
 have kq:=hq3.set6 (.slice sa sn sc) (.slice pa pn pc) (.slice la li.length lc) (.slice xa xn xc) (.int .i64 tv) (.bool dn)
 generalize hwf:set6 w1 (w.heap.size+1+1) (.slice sa sn sc) (.slice pa pn pc) (.slice la li.length lc) (.slice xa xn xc) (.int .i64 tv) (.bool dn)=wf at *
 simp only [set6] at hwf
 rw [hwf]
 have k0:=kq.cell 0
 have k1:=kq.cell 1
 have k2:=kq.cell 2
 have k3:=kq.cell 3
 have k4:=kq.cell 4
 have k5:=kq.cell 5
 simp only [List.getElem?_toArray,List.getElem?_cons_zero,List.getElem?_cons_succ] at k0 k1 k2 k3 k4 k5
 simp [results,Tryz.results100,go_sem,k0,k1,k2,k3,k4,k5]
set_option maxRecDepth 100000 in
set_option maxHeartbeats 8000000 in
theorem over100_badb (sa pa la xa:Option Addr)(sn sc pn pc lc xn xc:Nat)(li:List Rw)(tv:Int)(dn:Bool)(j q x:Nat)(w:World)(hl:LsAt 2 0 w (.slice la li.length lc) li)(hn:li.length≤1048575)(hqx:¬q<x)(h0:(lieF li (j:Int)).getD 0≠0)(h1:(lieF li (j:Int)).getD 0≠(q:Int)):
 Calls Tryz.prog 100 #[.agg #[.slice sa sn sc,.slice pa pn pc,.slice la li.length lc,.slice xa xn xc,.int .i64 tv,.bool dn],kindV 3,.agg #[.int .i64 (j:Int),.int .i64 (q:Int)],.int .i64 (x:Int)] w fun e w'=>e=.returned (.tuple #[.agg #[.slice none 0 0,.slice none 0 0,.slice none 0 0,.slice none 0 0,.int .i64 0,.bool false],.bool false])∧Below w.heap.size w w':=by
 rw [show kindV 3=.iface 194 (.agg #[]) from rfl]
 have t1:=ta99_99
 have t2:=ta99_100
 have HL:Hid (LsAt 2 0 w (.slice la li.length lc) li):=hl
 have hqx':¬(q:Int)<(x:Int):=by omega
 clear hl
 go_enter Tryz.func100,Tryz.ntmps100
 go_wp2_with fail
 have b0:Below w.heap.size w (((w.alloc (.cells #[.slice sa sn sc,.slice pa pn pc,.slice la li.length lc,.slice xa xn xc,.int .i64 tv,.bool dn] 78)).alloc (.cells #[.int .i64 (j:Int),.int .i64 (q:Int)] 128)).alloc (.cells #[.slice none 0 0,.slice none 0 0,.slice none 0 0,.slice none 0 0,.int .i64 0,.bool false] 78)):=((bel2 _ _ _).alloc (bel2 _ _ _).size _)
 have q0:Box (((w.alloc (.cells #[.slice sa sn sc,.slice pa pn pc,.slice la li.length lc,.slice xa xn xc,.int .i64 tv,.bool dn] 78)).alloc (.cells #[.int .i64 (j:Int),.int .i64 (q:Int)] 128)).alloc (.cells #[.slice none 0 0,.slice none 0 0,.slice none 0 0,.slice none 0 0,.int .i64 0,.bool false] 78)) w.heap.size 78 #[.slice sa sn sc,.slice pa pn pc,.slice la li.length lc,.slice xa xn xc,.int .i64 tv,.bool dn]:=((Box.new w 78 _).alloc _).alloc _
 have q1:Box (((w.alloc (.cells #[.slice sa sn sc,.slice pa pn pc,.slice la li.length lc,.slice xa xn xc,.int .i64 tv,.bool dn] 78)).alloc (.cells #[.int .i64 (j:Int),.int .i64 (q:Int)] 128)).alloc (.cells #[.slice none 0 0,.slice none 0 0,.slice none 0 0,.slice none 0 0,.int .i64 0,.bool false] 78)) (w.heap.size+1) 128 #[.int .i64 (j:Int),.int .i64 (q:Int)]:=Box.alloc (by have:=Box.new (w.alloc (.cells #[.slice sa sn sc,.slice pa pn pc,.slice la li.length lc,.slice xa xn xc,.int .i64 tv,.bool dn] 78)) 128 #[.int .i64 (j:Int),.int .i64 (q:Int)];simpa using this) _
 have q2:Box (((w.alloc (.cells #[.slice sa sn sc,.slice pa pn pc,.slice la li.length lc,.slice xa xn xc,.int .i64 tv,.bool dn] 78)).alloc (.cells #[.int .i64 (j:Int),.int .i64 (q:Int)] 128)).alloc (.cells #[.slice none 0 0,.slice none 0 0,.slice none 0 0,.slice none 0 0,.int .i64 0,.bool false] 78)) (w.heap.size+1+1) 78 #[.slice none 0 0,.slice none 0 0,.slice none 0 0,.slice none 0 0,.int .i64 0,.bool false]:=by have:=Box.new ((w.alloc (.cells #[.slice sa sn sc,.slice pa pn pc,.slice la li.length lc,.slice xa xn xc,.int .i64 tv,.bool dn] 78)).alloc (.cells #[.int .i64 (j:Int),.int .i64 (q:Int)] 128)) 78 #[.slice none 0 0,.slice none 0 0,.slice none 0 0,.slice none 0 0,.int .i64 0,.bool false];simpa using this
 refine (lieOf117 (.slice la li.length lc) li (j:Int) _ (HL.out.mono lr b0 lr) (by omega)).mono ?_
 rintro e w1 ⟨rfl,hb1⟩
 have HB1:Hid (Below w.heap.size w w1):=b0.trans (hb1.mono b0.size)
 replace q0:=q0.mono hb1 lr
 replace q1:=q1.mono hb1 lr
 replace q2:=q2.mono hb1 lr
 have g0:((lieF li (j:Int)).getD 0 == 0)=false:=by simp [h0]
 have g1:((lieF li (j:Int)).getD 0 == (q:Int))=false:=by simp [h1]
 generalize (lieF li (j:Int)).getD 0=lf at *
 have x0:=q0.cell 0
 have x1:=q0.cell 1
 have x2:=q0.cell 2
 have x3:=q0.cell 3
 have x4:=q0.cell 4
 have x5:=q0.cell 5
 have y0:=q2.cell 0
 have y1:=q2.cell 1
 have y2:=q2.cell 2
 have y3:=q2.cell 3
 have y4:=q2.cell 4
 have y5:=q2.cell 5
 have u0:=q1.cell 0
 have u1:=q1.cell 1
 simp only [List.getElem?_toArray,List.getElem?_cons_zero,List.getElem?_cons_succ] at x0 x1 x2 x3 x4 x5 y0 y1 y2 y3 y4 y5 u0 u1
 have f0:=q0.free 2
 have z0:=q2.free 0
 have z1:=q2.free 1
 have z2:=q2.free 2
 have z3:=q2.free 3
 have z4:=q2.free 4
 have z5:=q2.free 5
 have HQ0:Hid (Box w1 w.heap.size 78 #[.slice sa sn sc,.slice pa pn pc,.slice la li.length lc,.slice xa xn xc,.int .i64 tv,.bool dn]):=q0
 have HQ2:Hid (Box w1 (w.heap.size+1+1) 78 #[.slice none 0 0,.slice none 0 0,.slice none 0 0,.slice none 0 0,.int .i64 0,.bool false]):=q2
 clear q0 q1 q2 h0 h1 hb1 b0
 go_wp2_with fail
 have hfin:Fr (fun k=>w.heap.size≤k) w1 (set6 w1 (w.heap.size+1+1) (.slice none 0 0) (.slice none 0 0) (.slice none 0 0) (.slice none 0 0) (.int .i64 0) (.bool false)):=Fr.set6 (X:=fun k=>w.heap.size≤k) (by omega) _ _ _ _ _ _
 have hq3:=HQ2.out
 have hbe:=(Fr.of_below (X:=fun _=>False) HB1.out).then hfin (by intro i hi hy;omega)
 refine bodyPost_ret (v:=.tuple #[.agg #[.slice none 0 0,.slice none 0 0,.slice none 0 0,.slice none 0 0,.int .i64 0,.bool false],.bool false]) ?_ rfl ⟨rfl,hbe.below lr (fun _ _ h=>h)⟩
 have kq:=hq3.set6 (.slice none 0 0) (.slice none 0 0) (.slice none 0 0) (.slice none 0 0) (.int .i64 0) (.bool false)
 generalize hwf:set6 w1 (w.heap.size+1+1) (.slice none 0 0) (.slice none 0 0) (.slice none 0 0) (.slice none 0 0) (.int .i64 0) (.bool false)=wf at *
 simp only [set6] at hwf
 rw [hwf]
 have k0:=kq.cell 0
 have k1:=kq.cell 1
 have k2:=kq.cell 2
 have k3:=kq.cell 3
 have k4:=kq.cell 4
 have k5:=kq.cell 5
 simp only [List.getElem?_toArray,List.getElem?_cons_zero,List.getElem?_cons_succ] at k0 k1 k2 k3 k4 k5
 simp [results,Tryz.results100,go_sem,k0,k1,k2,k3,k4,k5]
set_option maxRecDepth 100000 in
set_option maxHeartbeats 8000000 in
theorem over100_newb (B:Nat)(sa pa la xa:Option Addr)(sn sc pn pc lc xn xc:Nat)(li:List Rw)(tv:Int)(dn:Bool)(j q x:Nat)(w:World)(hB:B≤w.heap.size)(ho:Own B 136 2 w (.slice la li.length lc) li)(hn:li.length≤1048575)(hqx:¬q<x)(h0:(lieF li (j:Int)).getD 0=0):
 Calls Tryz.prog 100 #[.agg #[.slice sa sn sc,.slice pa pn pc,.slice la li.length lc,.slice xa xn xc,.int .i64 tv,.bool dn],kindV 3,.agg #[.int .i64 (j:Int),.int .i64 (q:Int)],.int .i64 (x:Int)] w fun e w'=>∃ lv,e=.returned (.tuple #[.agg #[.slice sa sn sc,.slice pa pn pc,lv,.slice xa xn xc,.int .i64 tv,.bool dn],.bool true])∧Own B 136 2 w' lv (li ++ [[(j:Int),(q:Int)]])∧Own B 136 2 w' (.slice la li.length lc) li∧Fr (fun k=>(Value.slice la li.length lc).ownBlock=some k) w w'∧Moved w (.slice la li.length lc) lv:=by
 have HO:Hid (Own B 136 2 w (.slice la li.length lc) li):=ho
 have hl:LsAt 2 0 w (.slice la li.length lc) li:=ho.ls.keep zl lr (fun _ _=>rfl)
 clear ho
 obtain ⟨i5,e51,e52,e53,e54⟩:=info_parts infoLie
 rw [show kindV 3=.iface 194 (.agg #[]) from rfl]
 have t1:=ta99_99
 have t2:=ta99_100
 have HL:Hid (LsAt 2 0 w (.slice la li.length lc) li):=hl
 have hqx':¬(q:Int)<(x:Int):=by omega
 clear hl
 go_enter Tryz.func100,Tryz.ntmps100
 go_wp2_with fail
 have b0:Below w.heap.size w (((w.alloc (.cells #[.slice sa sn sc,.slice pa pn pc,.slice la li.length lc,.slice xa xn xc,.int .i64 tv,.bool dn] 78)).alloc (.cells #[.int .i64 (j:Int),.int .i64 (q:Int)] 128)).alloc (.cells #[.slice none 0 0,.slice none 0 0,.slice none 0 0,.slice none 0 0,.int .i64 0,.bool false] 78)):=((bel2 _ _ _).alloc (bel2 _ _ _).size _)
 have q0:Box (((w.alloc (.cells #[.slice sa sn sc,.slice pa pn pc,.slice la li.length lc,.slice xa xn xc,.int .i64 tv,.bool dn] 78)).alloc (.cells #[.int .i64 (j:Int),.int .i64 (q:Int)] 128)).alloc (.cells #[.slice none 0 0,.slice none 0 0,.slice none 0 0,.slice none 0 0,.int .i64 0,.bool false] 78)) w.heap.size 78 #[.slice sa sn sc,.slice pa pn pc,.slice la li.length lc,.slice xa xn xc,.int .i64 tv,.bool dn]:=((Box.new w 78 _).alloc _).alloc _
 have q1:Box (((w.alloc (.cells #[.slice sa sn sc,.slice pa pn pc,.slice la li.length lc,.slice xa xn xc,.int .i64 tv,.bool dn] 78)).alloc (.cells #[.int .i64 (j:Int),.int .i64 (q:Int)] 128)).alloc (.cells #[.slice none 0 0,.slice none 0 0,.slice none 0 0,.slice none 0 0,.int .i64 0,.bool false] 78)) (w.heap.size+1) 128 #[.int .i64 (j:Int),.int .i64 (q:Int)]:=Box.alloc (by have:=Box.new (w.alloc (.cells #[.slice sa sn sc,.slice pa pn pc,.slice la li.length lc,.slice xa xn xc,.int .i64 tv,.bool dn] 78)) 128 #[.int .i64 (j:Int),.int .i64 (q:Int)];simpa using this) _
 have q2:Box (((w.alloc (.cells #[.slice sa sn sc,.slice pa pn pc,.slice la li.length lc,.slice xa xn xc,.int .i64 tv,.bool dn] 78)).alloc (.cells #[.int .i64 (j:Int),.int .i64 (q:Int)] 128)).alloc (.cells #[.slice none 0 0,.slice none 0 0,.slice none 0 0,.slice none 0 0,.int .i64 0,.bool false] 78)) (w.heap.size+1+1) 78 #[.slice none 0 0,.slice none 0 0,.slice none 0 0,.slice none 0 0,.int .i64 0,.bool false]:=by have:=Box.new ((w.alloc (.cells #[.slice sa sn sc,.slice pa pn pc,.slice la li.length lc,.slice xa xn xc,.int .i64 tv,.bool dn] 78)).alloc (.cells #[.int .i64 (j:Int),.int .i64 (q:Int)] 128)) 78 #[.slice none 0 0,.slice none 0 0,.slice none 0 0,.slice none 0 0,.int .i64 0,.bool false];simpa using this
 refine (lieOf117 (.slice la li.length lc) li (j:Int) _ (HL.out.mono lr b0 lr) (by omega)).mono ?_
 rintro e w1 ⟨rfl,hb1⟩
 have HB1:Hid (Below w.heap.size w w1):=b0.trans (hb1.mono b0.size)
 replace q0:=q0.mono hb1 lr
 replace q1:=q1.mono hb1 lr
 replace q2:=q2.mono hb1 lr
 rw [h0]
 have HO1:Hid (Own B 136 2 w1 (.slice la li.length lc) li):=HO.out.mono lr HB1.out lr
 have hs1:=HB1.out.size
 have u0:=q1.cell 0
 have u1:=q1.cell 1
 have x2:=q0.cell 2
 simp only [List.getElem?_toArray,List.getElem?_cons_zero,List.getElem?_cons_succ] at x2 u0 u1
 have HP0:Hid (Box w1 w.heap.size 78 #[.slice sa sn sc,.slice pa pn pc,.slice la li.length lc,.slice xa xn xc,.int .i64 tv,.bool dn]):=q0
 have HP2:Hid (Box w1 (w.heap.size+1+1) 78 #[.slice none 0 0,.slice none 0 0,.slice none 0 0,.slice none 0 0,.int .i64 0,.bool false]):=q2
 clear q0 q1 q2 h0 hb1 b0
 go_wp2_with (at_builtin;go_must (refine wpList_appH _ rfl (.tmp 38) (.tmp 43) 59 rfl B 136 i5 _ 2 16 Tryz.underlying59 e51 e52 e53 e54 rfl (by decide) _ li rfl (HO1.out.alloc _) ⟨w1.heap.size,0,none⟩ 1 1 [[(j:Int),(q:Int)]] rfl rfl (by decide) (Wide.one rfl) (news_at [(j:Int),(q:Int)] rfl) (by simp [maxLen];omega) (by omega) (by simp;omega) ?_))
 refine Halt.mk fun v1 w1x ho1 hs1x hap=>?_
 obtain ⟨a1,c1,rfl⟩:=ho1.val
 rw [List.length_append] at ho1 hap ⊢
 have HMV:Hid (Moved w (.slice la li.length lc) (.slice a1 (li.length+1) c1)):=Moved.old hap.moved (by simp;omega)
 have q0:Box w1x w.heap.size 78 #[.slice sa sn sc,.slice pa pn pc,.slice la li.length lc,.slice xa xn xc,.int .i64 tv,.bool dn]:=(HP0.out.alloc _).grown hap.fr (fun e=>by have:=(HO.out.lt e).2;omega)
 have q2:Box w1x (w.heap.size+1+1) 78 #[.slice none 0 0,.slice none 0 0,.slice none 0 0,.slice none 0 0,.int .i64 0,.bool false]:=(HP2.out.alloc _).grown hap.fr (fun e=>by have:=(HO.out.lt e).2;omega)
 have HF:Hid (Fr (fun k=>(Value.slice la li.length lc).ownBlock=some k) w w1x):=(Fr.of_below (X:=fun k=>(Value.slice la li.length lc).ownBlock=some k) (HB1.out.alloc hs1 _)).trans (Fr.of_grown hap.fr (fun k e _=>e))
 have HN1:Hid (Own B 136 2 w1x (.slice a1 (li.length+1) c1) (li ++ [[(j:Int),(q:Int)]])):=ho1
 have HS1:Hid (Own B 136 2 w1x (.slice la li.length lc) li):=hs1x
 clear u0 u1 x2
 have x0:=q0.cell 0
 have x1:=q0.cell 1
 have x2:=q0.cell 2
 have x3:=q0.cell 3
 have x4:=q0.cell 4
 have x5:=q0.cell 5
 have y0:=q2.cell 0
 have y1:=q2.cell 1
 have y2:=q2.cell 2
 have y3:=q2.cell 3
 have y4:=q2.cell 4
 have y5:=q2.cell 5
 have f0:=q0.free 2
 have z0:=q2.free 0
 have z1:=q2.free 1
 have z2:=q2.free 2
 have z3:=q2.free 3
 have z4:=q2.free 4
 have z5:=q2.free 5
 simp only [List.getElem?_toArray,List.getElem?_cons_zero,List.getElem?_cons_succ] at x0 x1 x2 x3 x4 x5 y0 y1 y2 y3 y4 y5
 have HQ0:Hid (Box w1x w.heap.size 78 #[.slice sa sn sc,.slice pa pn pc,.slice la li.length lc,.slice xa xn xc,.int .i64 tv,.bool dn]):=q0
 have HQ2:Hid (Box w1x (w.heap.size+1+1) 78 #[.slice none 0 0,.slice none 0 0,.slice none 0 0,.slice none 0 0,.int .i64 0,.bool false]):=q2
 clear hap ho1 hs1x q0 q2 HO HP0 HP2 HO1
 go_wp2_with fail
 have hfin:Fr (fun k=>w.heap.size≤k) w1x (set6 (w1x.setCell ⟨w.heap.size,2,none⟩ (.slice a1 (li.length+1) c1)) (w.heap.size+1+1) (.slice sa sn sc) (.slice pa pn pc) (.slice a1 (li.length+1) c1) (.slice xa xn xc) (.int .i64 tv) (.bool dn)):=(Fr.set (X:=fun k=>w.heap.size≤k) _ _ lr).trans (Fr.set6 (X:=fun k=>w.heap.size≤k) (by omega) _ _ _ _ _ _)
 have hq3:=HQ2.out.other (p:=⟨w.heap.size,2,none⟩) (by simp;omega) (.slice a1 (li.length+1) c1)
 refine bodyPost_ret (v:=.tuple #[.agg #[.slice sa sn sc,.slice pa pn pc,.slice a1 (li.length+1) c1,.slice xa xn xc,.int .i64 tv,.bool dn],.bool true]) ?_ rfl ⟨.slice a1 (li.length+1) c1,rfl,(HN1.out.set HQ0.out (by decide) 2 _).set6 hq3 (by decide) _ _ _ _ _ _,(HS1.out.set HQ0.out (by decide) 2 _).set6 hq3 (by decide) _ _ _ _ _ _,HF.out.then hfin (by intro i hi hy;omega),HMV.out⟩
 have kq:=hq3.set6 (.slice sa sn sc) (.slice pa pn pc) (.slice a1 (li.length+1) c1) (.slice xa xn xc) (.int .i64 tv) (.bool dn)
 generalize hwf:set6 (w1x.setCell ⟨w.heap.size,2,none⟩ (.slice a1 (li.length+1) c1)) (w.heap.size+1+1) (.slice sa sn sc) (.slice pa pn pc) (.slice a1 (li.length+1) c1) (.slice xa xn xc) (.int .i64 tv) (.bool dn)=wf at *
 simp only [set6] at hwf
 rw [hwf]
 have k0:=kq.cell 0
 have k1:=kq.cell 1
 have k2:=kq.cell 2
 have k3:=kq.cell 3
 have k4:=kq.cell 4
 have k5:=kq.cell 5
 simp only [List.getElem?_toArray,List.getElem?_cons_zero,List.getElem?_cons_succ] at k0 k1 k2 k3 k4 k5
 simp [results,Tryz.results100,go_sem,k0,k1,k2,k3,k4,k5]
def lookAt (vs:Array Value)(sl:List Rw):Prop:=∀ p s:Nat,p<100→s<2→vs[3+p*2+s]?=some (.bool (decide ([(p:Int),(s:Int)] ∈ sl)))
structure FkS (w0:World)(bt bf:Nat)(lv:Value)(at':Int)(w:World)(vs:Array Value)(fv:Value)(fl sl:List Rw):Prop where
 bel:Below w0.heap.size w0 w
 bf0:w0.heap.size≤bf
 box:Box w bf 143 vs
 v0:vs[0]?=some (.pointer (some ⟨bt,0,none⟩))
 v1:vs[1]?=some lv
 v2:vs[2]?=some (.int .i64 at')
 v203:vs[203]?=some fv
 own:Own w0.heap.size 155 4 w fv fl
 look:lookAt vs sl
def FkTo (w0:World)(bt bf:Nat)(lv:Value)(at':Int)(w:World)(fv:Value)(fl sl:List Rw)(r:Ending)(w':World):Prop:=
 r=.returned (.tuple #[])∧∃ vs' fv',FkS w0 bt bf lv at' w' vs' fv' fl sl∧Fr (fun k=>k=bf∨fv.ownBlock=some k) w w'∧Moved w fv fv'
theorem FkS.below {w0:World}{bt bf:Nat}{lv:Value}{at':Int}{w w':World}{vs:Array Value}{fv:Value}{fl sl:List Rw}(h:FkS w0 bt bf lv at' w vs fv fl sl)(hb:Below w.heap.size w w'):FkS w0 bt bf lv at' w' vs fv fl sl:=
 ⟨h.bel.trans (hb.mono h.bel.size),h.bf0,h.box.mono hb lr,h.v0,h.v1,h.v2,h.v203,h.own.mono lr hb lr,h.look⟩
theorem FkS.found {w0:World}{bt bf:Nat}{lv:Value}{at':Int}{w w':World}{vs:Array Value}{fv fv':Value}{fl sl fl':List Rw}(h:FkS w0 bt bf lv at' w vs fv fl sl)(ho:Own w0.heap.size 155 4 w' fv' fl')(hx:Box w' bf 143 (vs.setIfInBounds 203 fv'))(hf:Fr (fun k=>k=bf∨fv.ownBlock=some k) w w'):
 FkS w0 bt bf lv at' w' (vs.setIfInBounds 203 fv') fv' fl' sl:=by
 have hz:203<vs.size:=(Array.getElem?_eq_some_iff.1 h.v203).1
 refine ⟨h.bel.trans (hf.below h.bel.size ?_),h.bf0,hx,?_,?_,?_,?_,ho,?_⟩
 ·rintro k hk (e | e)
  ·have:=h.bf0;omega
  ·have:=(h.own.lt e).1;omega
 ·rw [Array.getElem?_setIfInBounds_ne (by decide)];exact h.v0
 ·rw [Array.getElem?_setIfInBounds_ne (by decide)];exact h.v1
 ·rw [Array.getElem?_setIfInBounds_ne (by decide)];exact h.v2
 ·rw [Array.getElem?_setIfInBounds_self_of_lt hz]
 ·intro p s hp hs
  rw [Array.getElem?_setIfInBounds_ne (by omega)]
  exact h.look p s hp hs
theorem ta97_97 (w:World):(Instr.typeAssert (.iface 195 (.agg #[])) 170 195 true).run Tryz.prog w=.ok (.tuple #[.agg #[],.bool true]) w:=by kernel_rfl
theorem ta98_97 (w:World):(Instr.typeAssert (.iface 198 (.agg #[])) 170 195 true).run Tryz.prog w=.ok (.tuple #[.agg #[],.bool false]) w:=by kernel_rfl
theorem ta99_97 (w:World):(Instr.typeAssert (.iface 194 (.agg #[])) 170 195 true).run Tryz.prog w=.ok (.tuple #[.agg #[],.bool false]) w:=by kernel_rfl
theorem ta100_97 (w:World):(Instr.typeAssert (.iface 193 (.agg #[])) 170 195 true).run Tryz.prog w=.ok (.tuple #[.agg #[],.bool false]) w:=by kernel_rfl
set_option maxRecDepth 100000 in
set_option maxHeartbeats 8000000 in
theorem over105_buf {v:Ev}(ok:v.Ok){w0:World}{bt bf:Nat}{pa:Option Addr}{pc:Nat}{ja:Option Addr}{jc:Nat}{sa:Option Addr}{sc:Nat}{lv:Value}{at':Int}(j q:Nat)(w:World)(vs:Array Value)(fv:Value)(fl sl:List Rw)(ht:TkAt w0 bt v pa pc ja jc sa sc)(h:FkS w0 bt bf lv at' w vs fv fl sl)(hn:fl.length≤1048575)(hj:j<v.m)(hk:(v.J j).kd=1):
 Calls Tryz.prog 105 #[.pointer (some ⟨bf,0,none⟩),.agg #[.int .i64 (j:Int),.int .i64 (q:Int)]] w (FkTo w0 bt bf lv at' w fv (fl ++ [[at',1,(j:Int),0]]) sl):=by
 have t1:=ta97_97
 have HT:Hid (TkAt w0 bt v pa pc ja jc sa sc):=ht
 have HS:Hid (FkS w0 bt bf lv at' w vs fv fl sl):=h
 have OK:Hid v.Ok:=ok
 clear h ht ok
 go_enter Tryz.func105,Tryz.ntmps105
 go_wp2_with fail
 have S0:=HS.out.below (bel1 w (.cells #[.int .i64 (j:Int),.int .i64 (q:Int)] 128)).drew
 have T0:Hid (TkAt (w.alloc (.cells #[.int .i64 (j:Int),.int .i64 (q:Int)] 128)).drew bt v pa pc ja jc sa sc):=HT.out.mono S0.bel lr
 have HS0:Hid (FkS w0 bt bf lv at' (w.alloc (.cells #[.int .i64 (j:Int),.int .i64 (q:Int)] 128)).drew vs fv fl sl):=S0
 have x0:w.cell? ⟨bf,0,none⟩=some (.pointer (some ⟨bt,0,none⟩)):=(HS.out.box.cell 0).trans HS.out.v0
 have hbl:=HS.out.box.lt
 clear S0
 go_region_held3 (fun w'=>w'.cell? ⟨bf,0,none⟩=some (.pointer (some ⟨bt,0,none⟩))∧w'.cell? ⟨w.heap.size,0,none⟩=some (.int .i64 (j:Int))∧w'.cell? ⟨w.heap.size,1,none⟩=some (.int .i64 (q:Int))) (go_keep) (first
  | (go_at_call 99;refine (kind99 OK.out j _ T0.out hj).mono ?_;rintro e w1 ⟨rfl,rfl⟩))
 all_goals
  clear T0
  rw [show kindV 1=.iface 195 (.agg #[]) from rfl]
  have hw9:(w.alloc (.cells #[.int .i64 (j:Int),.int .i64 (q:Int)] 128)).drew.cell? ⟨w.heap.size,0,none⟩=some (.int .i64 (j:Int)):=((Box.new w 128 #[.int .i64 (j:Int),.int .i64 (q:Int)]).drew).cell 0
  have hsz:=HS0.out.bel.size
  go_wp2_with fail
  refine (find104 w0.heap.size bf vs fv fl at' 1 (j:Int) 0 _ HS0.out.box HS0.out.v2 HS0.out.v203 hsz HS0.out.own hn).mono ?_
  rintro e w2 ⟨rfl,fv',ho2,hx2,hf2,hm2⟩
  have HP:Hid (FkTo w0 bt bf lv at' w fv (fl ++ [[at',1,(j:Int),0]]) sl (.returned (.tuple #[])) w2):=⟨rfl,_,fv',HS0.out.found ho2 hx2 hf2,(Fr.of_below (bel1 w _).drew).trans hf2,hm2.old (bel1 w _).drew.size⟩
  clear ho2 hx2 hf2 hm2
  go_wp2_with fail
  exact bodyPost_ret (results_none rfl _ _ _) rfl HP.out
set_option maxRecDepth 100000 in
set_option maxHeartbeats 8000000 in
theorem over105_turn {v:Ev}(ok:v.Ok){w0:World}{bt bf:Nat}{pa:Option Addr}{pc:Nat}{ja:Option Addr}{jc:Nat}{sa:Option Addr}{sc:Nat}{lv:Value}{at':Int}(j q:Nat)(w:World)(vs:Array Value)(fv:Value)(fl sl:List Rw)(ht:TkAt w0 bt v pa pc ja jc sa sc)(h:FkS w0 bt bf lv at' w vs fv fl sl)(hn:fl.length≤1048575)(hj:j<v.m)(hk:(v.J j).kd=3)(li:List Rw)(hl:LsAt 2 0 w0 lv li)(hll:li.length≤1048576)(hq:0<q)(hq3:q≤3):
 Calls Tryz.prog 105 #[.pointer (some ⟨bf,0,none⟩),.agg #[.int .i64 (j:Int),.int .i64 (q:Int)]] w (FkTo w0 bt bf lv at' w fv (fl ++ [turnF li at' j q]) sl):=by
 have t1:=ta99_97
 have t2:=ta99_99
 have HL:Hid (LsAt 2 0 w0 lv li):=hl
 have g1:((q:Int) == 0)=false:=by simp;omega
 have hm1:=ok.m1
 have HT:Hid (TkAt w0 bt v pa pc ja jc sa sc):=ht
 have HS:Hid (FkS w0 bt bf lv at' w vs fv fl sl):=h
 have OK:Hid v.Ok:=ok
 clear h ht ok hl
 go_enter Tryz.func105,Tryz.ntmps105
 go_wp2_with fail
 have S0:=HS.out.below (bel1 w (.cells #[.int .i64 (j:Int),.int .i64 (q:Int)] 128)).drew
 have T0:Hid (TkAt (w.alloc (.cells #[.int .i64 (j:Int),.int .i64 (q:Int)] 128)).drew bt v pa pc ja jc sa sc):=HT.out.mono S0.bel lr
 have HS0:Hid (FkS w0 bt bf lv at' (w.alloc (.cells #[.int .i64 (j:Int),.int .i64 (q:Int)] 128)).drew vs fv fl sl):=S0
 have x0:w.cell? ⟨bf,0,none⟩=some (.pointer (some ⟨bt,0,none⟩)):=(HS.out.box.cell 0).trans HS.out.v0
 have hbl:=HS.out.box.lt
 clear S0
 go_region_held3 (fun w'=>w'.cell? ⟨bf,0,none⟩=some (.pointer (some ⟨bt,0,none⟩))∧w'.cell? ⟨w.heap.size,0,none⟩=some (.int .i64 (j:Int))∧w'.cell? ⟨w.heap.size,1,none⟩=some (.int .i64 (q:Int))) (go_keep) (first
  | (go_at_call 99;refine (kind99 OK.out j _ T0.out hj).mono ?_;rintro e w1 ⟨rfl,rfl⟩))
 all_goals
  clear T0
  rw [show kindV 3=.iface 194 (.agg #[]) from rfl]
  have hw9:(w.alloc (.cells #[.int .i64 (j:Int),.int .i64 (q:Int)] 128)).drew.cell? ⟨w.heap.size,0,none⟩=some (.int .i64 (j:Int)):=((Box.new w 128 #[.int .i64 (j:Int),.int .i64 (q:Int)]).drew).cell 0
  have hsz:=HS0.out.bel.size
  have hw8:(w.alloc (.cells #[.int .i64 (j:Int),.int .i64 (q:Int)] 128)).drew.cell? ⟨w.heap.size,1,none⟩=some (.int .i64 (q:Int)):=((Box.new w 128 #[.int .i64 (j:Int),.int .i64 (q:Int)]).drew).cell 1
  go_wp2_with fail
  refine (turned118 w0.heap.size bf vs lv fv li fl at' j q _ HS0.out.box HS0.out.v1 (HL.out.mono lr HS0.out.bel lr) hll HS0.out.v2 HS0.out.v203 hsz HS0.out.own hn (by omega) hq3).mono ?_
  rintro e w2 ⟨rfl,fv',ho2,hx2,hf2,hm2⟩
  have HP:Hid (FkTo w0 bt bf lv at' w fv (fl ++ [turnF li at' j q]) sl (.returned (.tuple #[])) w2):=⟨rfl,_,fv',HS0.out.found ho2 hx2 hf2,(Fr.of_below (bel1 w _).drew).trans hf2,hm2.old (bel1 w _).drew.size⟩
  clear ho2 hx2 hf2 hm2
  go_wp2_with fail
  exact bodyPost_ret (results_none rfl _ _ _) rfl HP.out
end Go.Proofs.YtkhaehpobpkkiaaGreat
