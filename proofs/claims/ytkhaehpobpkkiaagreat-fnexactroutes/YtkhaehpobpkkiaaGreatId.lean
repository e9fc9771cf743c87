import Derived.Test.YtkhaehpobpkkiaaGreatIc
import Derived.Test.YtkhaehpobpkkiaaGreatIb
namespace Go.Proofs.YtkhaehpobpkkiaaGreat
open Go.RowKit
def Ev.flx (v:Ev)(li:List Rw)(at':Int)(f j:Nat):List Nat→List Rw→List Rw × List Rw
 | [],sl=>(sl,[])
 | x :: xs,sl=>((v.flx li at' f j xs (v.fl li at' f sl ((v.J j).E x)).1).1,(v.fl li at' f sl ((v.J j).E x)).2 ++ (v.flx li at' f j xs (v.fl li at' f sl ((v.J j).E x)).1).2)
def FkC (v:Ev)(w0:World)(bt bf:Nat)(lv:Value)(li:List Rw)(at':Int)(f:Nat):Prop:=
 ∀ (w:World) (vs:Array Value) (fv:Value) (fl sl:List Rw) (e:En),EnOk v e→FkS w0 bt bf lv at' w vs fv fl sl→Once 0 1 v.n sl→fl.length≤sl.length→2*v.n+1≤f+sl.length→
  Calls Tryz.prog 74 #[.pointer (some ⟨bf,0,none⟩),.agg #[.int .i64 e.pc,.int .i64 e.sd]] w (FkTo w0 bt bf lv at' w fv (fl ++ (v.fl li at' f sl e).2) (v.fl li at' f sl e).1)
theorem Fr.cell {X:Nat→Prop}{w w':World}(h:Fr X w w'){b o:Nat}(hb:b<w.heap.size)(hx:¬X b):w'.cell? ⟨b,o,none⟩=w.cell? ⟨b,o,none⟩:=World.cell?_of_block (h.block b hb hx)
set_option maxRecDepth 100000 in
set_option maxHeartbeats 8000000 in
theorem over105_plain {v:Ev}(ok:v.Ok){w0:World}{bt bf:Nat}{pa:Option Addr}{pc:Nat}{ja:Option Addr}{jc:Nat}{sa:Option Addr}{sc:Nat}{lv:Value}{at':Int}(j q:Nat)(w:World)(vs:Array Value)(fv:Value)(fl sl:List Rw)(ht:TkAt w0 bt v pa pc ja jc sa sc)(h:FkS w0 bt bf lv at' w vs fv fl sl)(li:List Rw)(f:Nat)(ih:FkC v w0 bt bf lv li at' f)(ho:Once 0 1 v.n sl)(hn:fl.length≤sl.length)(hf:2*v.n+1≤f+sl.length)(hj:j<v.m)(hk:(v.J j).kd=2)(hq:q<2):
 Calls Tryz.prog 105 #[.pointer (some ⟨bf,0,none⟩),.agg #[.int .i64 (j:Int),.int .i64 (q:Int)]] w (FkTo w0 bt bf lv at' w fv (fl ++ (v.flx li at' f j (acrossF 2 q) sl).2) (v.flx li at' f j (acrossF 2 q) sl).1):=by
 have t1:=ta98_97
 have t2:=ta98_99
 have hne:(v.J j).ne=2:=by have:=(ok.kd j hj).2.2;omega
 have HXS:Hid (∀ x,x ∈ acrossF 2 q→x<2):=by
  show ∀ x,x ∈ acrossF 2 q→x<2
  rcases (show q=0∨q=1 by omega) with rfl | rfl <;> simp [acrossF]
 have hxn:0<(acrossF 2 q).length∧(acrossF 2 q).length≤2:=by
  rcases (show q=0∨q=1 by omega) with rfl | rfl <;> simp [acrossF]
 have HT:Hid (TkAt w0 bt v pa pc ja jc sa sc):=ht
 have HS:Hid (FkS w0 bt bf lv at' w vs fv fl sl):=h
 have OK:Hid v.Ok:=ok
 have IH:Hid (FkC v w0 bt bf lv li at' f):=ih
 have HON:Hid (Once 0 1 v.n sl):=ho
 have hm1:=ok.m1
 clear h ht ok ih ho
 go_enter Tryz.func105,Tryz.ntmps105
 go_wp2_with fail
 have S0:=HS.out.below (bel1 w (.cells #[.int .i64 (j:Int),.int .i64 (q:Int)] 128)).drew
 have T0:Hid (TkAt (w.alloc (.cells #[.int .i64 (j:Int),.int .i64 (q:Int)] 128)).drew bt v pa pc ja jc sa sc):=HT.out.mono S0.bel lr
 have HS0:Hid (FkS w0 bt bf lv at' (w.alloc (.cells #[.int .i64 (j:Int),.int .i64 (q:Int)] 128)).drew vs fv fl sl):=S0
 have x0:w.cell? ⟨bf,0,none⟩=some (.pointer (some ⟨bt,0,none⟩)):=(HS.out.box.cell 0).trans HS.out.v0
 have hbl:=HS.out.box.lt
 clear S0
 go_region_held3 (fun w'=>w'.cell? ⟨bf,0,none⟩=some (.pointer (some ⟨bt,0,none⟩))∧w'.cell? ⟨w.heap.size,0,none⟩=some (.int .i64 (j:Int))∧w'.cell? ⟨w.heap.size,1,none⟩=some (.int .i64 (q:Int))) (go_keep) (first
  | (go_at_call 99;refine (kind99 OK.out j _ T0.out hj).mono ?_;rintro e w1 ⟨rfl,rfl⟩))
 all_goals
  clear T0
  rw [show kindV 2=.iface 198 (.agg #[]) from rfl]
  have hw9:(w.alloc (.cells #[.int .i64 (j:Int),.int .i64 (q:Int)] 128)).drew.cell? ⟨w.heap.size,0,none⟩=some (.int .i64 (j:Int)):=((Box.new w 128 #[.int .i64 (j:Int),.int .i64 (q:Int)]).drew).cell 0
  have hw8:(w.alloc (.cells #[.int .i64 (j:Int),.int .i64 (q:Int)] 128)).drew.cell? ⟨w.heap.size,1,none⟩=some (.int .i64 (q:Int)):=((Box.new w 128 #[.int .i64 (j:Int),.int .i64 (q:Int)]).drew).cell 1
  have HB0:Hid (Below w.heap.size w (w.alloc (.cells #[.int .i64 (j:Int),.int .i64 (q:Int)] 128)).drew):=(bel1 w _).drew
  have HX0:Hid (Box (w.alloc (.cells #[.int .i64 (j:Int),.int .i64 (q:Int)] 128)).drew w.heap.size 128 #[.int .i64 (j:Int),.int .i64 (q:Int)]):=(Box.new w 128 _).drew
  have hz0:(w.alloc (.cells #[.int .i64 (j:Int),.int .i64 (q:Int)] 128)).drew.heap.size=w.heap.size+1:=by simp
  go_wp2_with fail
  refine (overPlain q _ (by omega)).mono ?_
  rintro e w1 ⟨a,cap,rfl,hns,hb1⟩
  have HS1:Hid (FkS w0 bt bf lv at' w1 vs fv fl sl):=HS0.out.below hb1
  have HX1:Hid (Box w1 w.heap.size 128 #[.int .i64 (j:Int),.int .i64 (q:Int)]):=HX0.out.mono hb1 lr
  have HB1:Hid (Below w.heap.size w w1):=HB0.out.trans (hb1.mono HB0.out.size)
  generalize acrossF 2 q=xs at *
  obtain ⟨b,off,rfl,hbb,hbl1,hc⟩:=hns hxn.1
  rw [hz0] at hbb
  have HC:Hid (∀ i,i<xs.length→w1.cell? ⟨b,off+i,none⟩=some (.int .i64 ((xs.getD i 0:Nat):Int))):=fun i hi=>by have:=hc i hi 0 (by omega);simpa using this
  obtain ⟨jb,joff,rfl,_,hjb,hjc⟩:=HT.out.net.j (by omega)
  obtain ⟨ea,ec,_,_,d2,hEs⟩:=hjc j hj
  have HEs:Hid (EsAt 0 w0 ea (v.J j).ne (v.J j).E):=hEs
  have hs0:=HS.out.bel.size
  have hs1:=HB1.out.size
  have hbf0:=HS.out.bf0
  have htl:=HT.out.lt
  have hx1l:=HX1.out.lt
  have t1:=HT.out.j
  have T1:Hid (w0.cell? ⟨bt,1,none⟩=some (.slice (some ⟨jb,joff,none⟩) v.m jc)):=t1
  have D2:Hid (w0.cell? ⟨jb,joff+j*3+2,none⟩=some (.slice ea (v.J j).ne ec)):=d2
  have hfo:Hid (∀ g,fv.ownBlock=some g→g<w.heap.size):=fun g hg=>(HS.out.own.lt hg).2
  clear hw9 hw8 hb1 HS0 HX0 HB0 hns hc hjc hEs d2 t1 x0
  go_wp2_with fail
  go_loopw [36] (fun i wr=>∃ (k:Nat) (vs':Array Value) (fv':Value) (fl' sl':List Rw),k≤xs.length∧i=.int .i64 k∧Hid (FkS w0 bt bf lv at' wr vs' fv' fl' sl')∧Hid (Fr (fun k=>k=bf∨fv.ownBlock=some k) w1 wr)∧Hid (Moved w1 fv fv')∧Hid (Once 0 1 v.n sl')∧fl'.length≤sl'.length∧2*v.n+1≤f+sl'.length∧Hid (fl' ++ (v.flx li at' f j (xs.drop k) sl').2=fl ++ (v.flx li at' f j xs sl).2)∧Hid ((v.flx li at' f j (xs.drop k) sl').1=(v.flx li at' f j xs sl).1)) (fun i _=>xs.length-(intOf i).toNat)
  case atStart=>exact ⟨0,vs,fv,fl,sl,Nat.zero_le _,rfl,HS1,Fr.refl _ _,Moved.refl _ _,HON,hn,hf,rfl,rfl⟩
  case round=>
   obtain ⟨k,vs',fv',fl',sl',hk9,rfl,HSr,HFr,HMr,HOr,hn',hf',HE1,HE2⟩:=hrel
   by_cases hlt:k<xs.length
   ·have HXK:Hid (xs.drop k=xs.getD k 0 :: xs.drop (k+1)):=by
     show _=_
     rw [List.drop_eq_getElem_cons hlt]
     simp [List.getD_eq_getElem?_getD,hlt]
    have hxk:xs.getD k 0<2:=HXS.out _ (by rw [List.getD_eq_getElem?_getD,List.getElem?_eq_getElem hlt];simp)
    have hcx:wr.cell? ⟨b,off+k,none⟩=some (.int .i64 ((xs.getD k 0:Nat):Int)):=(HFr.out.cell hbl1 (fun h=>h.elim (fun e=>by omega) (fun e=>by have:=hfo.out _ e;omega))).trans (HC.out k hlt)
    rw [HXK.out] at HE1 HE2
    generalize xs.getD k 0=x at *
    obtain ⟨b2,off2,rfl,_,hb2,hc2⟩:=HEs.out (by omega)
    have s0:w0.cell? ⟨b2,off2+x*2,none⟩=some (.int .i64 ((v.J j).E x).pc):=(hc2 x (by omega)).1
    have s1:w0.cell? ⟨b2,off2+x*2+1,none⟩=some (.int .i64 ((v.J j).E x).sd):=(hc2 x (by omega)).2
    have HEN:Hid (EnOk v ((v.J j).E x)):=OK.out.enOk hj (by omega)
    have y0:=cell_keep HSr.out.bel hb2 s0
    have y1:=cell_keep HSr.out.bel hb2 s1
    have y2:=cell_keep HSr.out.bel hjb D2.out
    have y3:=cell_keep HSr.out.bel htl T1.out
    have y4:wr.cell? ⟨bf,0,none⟩=some (.pointer (some ⟨bt,0,none⟩)):=(HSr.out.box.cell 0).trans HSr.out.v0
    have HXr:Hid (Box wr w.heap.size 128 #[.int .i64 (j:Int),.int .i64 (q:Int)]):=HX1.out.keep (HFr.out.block _ hx1l (fun h=>h.elim (fun e=>by omega) (fun e=>by have:=hfo.out _ e;omega)))
    have y5:wr.cell? ⟨w.heap.size,0,none⟩=some (.int .i64 (j:Int)):=HXr.out.cell 0
    have hji:(j:Int)<(v.m:Int):=by omega
    have hxi:(x:Int)<((v.J j).ne:Int):=by omega
    have hx0:(0:Int)≤(x:Int):=by omega
    have hxk':(x:Int)<2:=by omega
    have hxm:x<(v.J j).ne:=by omega
    have hj0:(0:Int)≤(j:Int):=by omega
    have HSd:Hid (FkS w0 bt bf lv at' wr.drew vs' fv' fl' sl'):=HSr.out.below (Below.refl _ _).drew
    have HFd:Hid (Fr (fun k=>k=bf∨fv.ownBlock=some k) w1 wr.drew):=HFr.out.drew
    have HXd:Hid (Box wr.drew w.heap.size 128 #[.int .i64 (j:Int),.int .i64 (q:Int)]):=HXr.out.drew
    have hwrs:=HFr.out.size
    have hwxl:=HXr.out.lt
    have S0:Hid (w0.cell? ⟨b2,off2+x*2,none⟩=some (.int .i64 ((v.J j).E x).pc)):=s0
    have S1:Hid (w0.cell? ⟨b2,off2+x*2+1,none⟩=some (.int .i64 ((v.J j).E x).sd)):=s1
    clear s0 s1 hc2 HSr HXr HFr
    go_wp2_with fail
    go_region_held3 (fun w'=>w'.cell? ⟨bf,0,none⟩=some (.pointer (some ⟨bt,0,none⟩))∧w'.cell? ⟨bt,1,none⟩=some (.slice (some ⟨jb,joff,none⟩) v.m jc)∧w'.cell? ⟨w.heap.size,0,none⟩=some (.int .i64 (j:Int))∧w'.cell? ⟨jb,joff+j*3+2,none⟩=some (.slice (some ⟨b2,off2,none⟩) (v.J j).ne ec)∧w'.cell? ⟨b2,off2+x*2,none⟩=some (.int .i64 ((v.J j).E x).pc)∧w'.cell? ⟨b2,off2+x*2+1,none⟩=some (.int .i64 ((v.J j).E x).sd)) (go_keep) (first
     | (go_at_call 74;refine (IH.out _ vs' fv' fl' sl' ((v.J j).E x) HEN.out HSd.out HOr.out hn' hf').mono ?_;rintro e w2 ⟨rfl,vs2,fv2,hS2,hF2,hM2⟩;have m0:w2.cell? ⟨bf,0,none⟩=some (.pointer (some ⟨bt,0,none⟩)):=(hS2.box.cell 0).trans hS2.v0;have m1:=cell_keep hS2.bel htl T1.out;have m2:w2.cell? ⟨w.heap.size,0,none⟩=some (.int .i64 (j:Int)):=(HXd.out.keep (hF2.block _ hwxl (fun h=>h.elim (fun e=>by omega) (fun e=>HSd.out.own.off HXd.out (by decide) e rfl)))).cell 0;have m3:=cell_keep hS2.bel hjb D2.out;have m4:=cell_keep hS2.bel hb2 S0.out;have m5:=cell_keep hS2.bel hb2 S1.out))
    all_goals
     have hg:=fl_grow OK.out li at' f sl' ((v.J j).E x) HOr.out HEN.out
     have HS2:Hid (FkS w0 bt bf lv at' w2 vs2 fv2 (fl' ++ (v.fl li at' f sl' ((v.J j).E x)).2) (v.fl li at' f sl' ((v.J j).E x)).1):=hS2
     have HF2:Hid (Fr (fun k=>k=bf∨fv.ownBlock=some k) w1 w2):=HFd.out.then hF2 (fun i hi hy=>hy.elim .inl (fun e=>(HMr.out i e).elim .inr (fun h=>by omega)))
     have HM2:Hid (Moved w1 fv fv2):=HMr.out.trans hM2 hwrs
     have HO2:Hid (Once 0 1 v.n (v.fl li at' f sl' ((v.J j).E x)).1):=hg.1
     have hn2:(fl' ++ (v.fl li at' f sl' ((v.J j).E x)).2).length≤(v.fl li at' f sl' ((v.J j).E x)).1.length:=by
      have:=hg.2.2.1
      rw [List.length_append]
      omega
     have hf2:2*v.n+1≤f+(v.fl li at' f sl' ((v.J j).E x)).1.length:=by
      have:=hg.2.1
      omega
     have HE3:Hid ((fl' ++ (v.fl li at' f sl' ((v.J j).E x)).2) ++ (v.flx li at' f j (xs.drop (k+1)) (v.fl li at' f sl' ((v.J j).E x)).1).2=fl ++ (v.flx li at' f j xs sl).2):=by
      have:=HE1.out
      simp only [Ev.flx] at this
      rw [List.append_assoc]
      exact this
     have HE4:Hid ((v.flx li at' f j (xs.drop (k+1)) (v.fl li at' f sl' ((v.J j).E x)).1).1=(v.flx li at' f j xs sl).1):=by
      have:=HE2.out
      simp only [Ev.flx] at this
      exact this
     generalize (v.fl li at' f sl' ((v.J j).E x)).1=sl2 at *
     generalize fl' ++ (v.fl li at' f sl' ((v.J j).E x)).2=fl2 at *
     clear hg hS2 hF2 hM2 m0 m1 m2 m3 m4 m5 HSd HFd HXd S0 S1 HE1 HE2 HOr HMr y0 y1 y2 y3 y4 y5 hcx
     go_wp2_with fail
     go_roundw
     case rel=>exact ⟨k+1,vs2,fv2,fl2,sl2,by omega,by go_num,HS2,HF2,HM2,HO2,hn2,hf2,HE3,HE4⟩
     case measure=>simp [intOf];omega
   ·obtain rfl:k=xs.length:=by omega
    rw [List.drop_length] at HE1 HE2
    have HP:Hid (FkTo w0 bt bf lv at' w fv (fl ++ (v.flx li at' f j xs sl).2) (v.flx li at' f j xs sl).1 (.returned (.tuple #[])) wr):=by
     have e1:=HE1.out
     have e2:=HE2.out
     simp only [Ev.flx,List.append_nil] at e1 e2
     rw [← e1,← e2]
     exact ⟨rfl,vs',fv',HSr.out,(Fr.of_below HB1.out).trans (HFr.out.mono fun _ _ h=>h),HMr.out.old hs1⟩
    clear HE1 HE2 HSr HFr HMr HOr
    go_wp2_with fail
    exact bodyPost_ret (results_none rfl _ _ _) rfl HP.out
set_option maxRecDepth 100000 in
set_option maxHeartbeats 8000000 in
theorem over105_cross {v:Ev}(ok:v.Ok){w0:World}{bt bf:Nat}{pa:Option Addr}{pc:Nat}{ja:Option Addr}{jc:Nat}{sa:Option Addr}{sc:Nat}{lv:Value}{at':Int}(j q:Nat)(w:World)(vs:Array Value)(fv:Value)(fl sl:List Rw)(ht:TkAt w0 bt v pa pc ja jc sa sc)(h:FkS w0 bt bf lv at' w vs fv fl sl)(li:List Rw)(f:Nat)(ih:FkC v w0 bt bf lv li at' f)(ho:Once 0 1 v.n sl)(hn:fl.length≤sl.length)(hf:2*v.n+1≤f+sl.length)(hj:j<v.m)(hk:(v.J j).kd=4)(hq:q<4):
 Calls Tryz.prog 105 #[.pointer (some ⟨bf,0,none⟩),.agg #[.int .i64 (j:Int),.int .i64 (q:Int)]] w (FkTo w0 bt bf lv at' w fv (fl ++ (v.flx li at' f j (acrossF 4 q) sl).2) (v.flx li at' f j (acrossF 4 q) sl).1):=by
 have t1:=ta100_97
 have t2:=ta100_99
 have hne:(v.J j).ne=4:=by have:=(ok.kd j hj).2.2;omega
 have HXS:Hid (∀ x,x ∈ acrossF 4 q→x<4):=by
  show ∀ x,x ∈ acrossF 4 q→x<4
  rcases (show q=0∨q=1∨q=2∨q=3 by omega) with rfl | rfl | rfl | rfl <;> simp [acrossF]
 have hxn:0<(acrossF 4 q).length∧(acrossF 4 q).length≤2:=by
  rcases (show q=0∨q=1∨q=2∨q=3 by omega) with rfl | rfl | rfl | rfl <;> simp [acrossF]
 have HT:Hid (TkAt w0 bt v pa pc ja jc sa sc):=ht
 have HS:Hid (FkS w0 bt bf lv at' w vs fv fl sl):=h
 have OK:Hid v.Ok:=ok
 have IH:Hid (FkC v w0 bt bf lv li at' f):=ih
 have HON:Hid (Once 0 1 v.n sl):=ho
 have hm1:=ok.m1
 clear h ht ok ih ho
 go_enter Tryz.func105,Tryz.ntmps105
 go_wp2_with fail
 have S0:=HS.out.below (bel1 w (.cells #[.int .i64 (j:Int),.int .i64 (q:Int)] 128)).drew
 have T0:Hid (TkAt (w.alloc (.cells #[.int .i64 (j:Int),.int .i64 (q:Int)] 128)).drew bt v pa pc ja jc sa sc):=HT.out.mono S0.bel lr
 have HS0:Hid (FkS w0 bt bf lv at' (w.alloc (.cells #[.int .i64 (j:Int),.int .i64 (q:Int)] 128)).drew vs fv fl sl):=S0
 have x0:w.cell? ⟨bf,0,none⟩=some (.pointer (some ⟨bt,0,none⟩)):=(HS.out.box.cell 0).trans HS.out.v0
 have hbl:=HS.out.box.lt
 clear S0
 go_region_held3 (fun w'=>w'.cell? ⟨bf,0,none⟩=some (.pointer (some ⟨bt,0,none⟩))∧w'.cell? ⟨w.heap.size,0,none⟩=some (.int .i64 (j:Int))∧w'.cell? ⟨w.heap.size,1,none⟩=some (.int .i64 (q:Int))) (go_keep) (first
  | (go_at_call 99;refine (kind99 OK.out j _ T0.out hj).mono ?_;rintro e w1 ⟨rfl,rfl⟩))
 all_goals
  clear T0
  rw [show kindV 4=.iface 193 (.agg #[]) from rfl]
  have hw9:(w.alloc (.cells #[.int .i64 (j:Int),.int .i64 (q:Int)] 128)).drew.cell? ⟨w.heap.size,0,none⟩=some (.int .i64 (j:Int)):=((Box.new w 128 #[.int .i64 (j:Int),.int .i64 (q:Int)]).drew).cell 0
  have hw8:(w.alloc (.cells #[.int .i64 (j:Int),.int .i64 (q:Int)] 128)).drew.cell? ⟨w.heap.size,1,none⟩=some (.int .i64 (q:Int)):=((Box.new w 128 #[.int .i64 (j:Int),.int .i64 (q:Int)]).drew).cell 1
  have HB0:Hid (Below w.heap.size w (w.alloc (.cells #[.int .i64 (j:Int),.int .i64 (q:Int)] 128)).drew):=(bel1 w _).drew
  have HX0:Hid (Box (w.alloc (.cells #[.int .i64 (j:Int),.int .i64 (q:Int)] 128)).drew w.heap.size 128 #[.int .i64 (j:Int),.int .i64 (q:Int)]):=(Box.new w 128 _).drew
  have hz0:(w.alloc (.cells #[.int .i64 (j:Int),.int .i64 (q:Int)] 128)).drew.heap.size=w.heap.size+1:=by simp
  go_wp2_with fail
  refine (overCross q _ (by omega)).mono ?_
  rintro e w1 ⟨a,cap,rfl,hns,hb1⟩
  have HS1:Hid (FkS w0 bt bf lv at' w1 vs fv fl sl):=HS0.out.below hb1
  have HX1:Hid (Box w1 w.heap.size 128 #[.int .i64 (j:Int),.int .i64 (q:Int)]):=HX0.out.mono hb1 lr
  have HB1:Hid (Below w.heap.size w w1):=HB0.out.trans (hb1.mono HB0.out.size)
  generalize acrossF 4 q=xs at *
  obtain ⟨b,off,rfl,hbb,hbl1,hc⟩:=hns hxn.1
  rw [hz0] at hbb
  have HC:Hid (∀ i,i<xs.length→w1.cell? ⟨b,off+i,none⟩=some (.int .i64 ((xs.getD i 0:Nat):Int))):=fun i hi=>by have:=hc i hi 0 (by omega);simpa using this
  obtain ⟨jb,joff,rfl,_,hjb,hjc⟩:=HT.out.net.j (by omega)
  obtain ⟨ea,ec,_,_,d2,hEs⟩:=hjc j hj
  have HEs:Hid (EsAt 0 w0 ea (v.J j).ne (v.J j).E):=hEs
  have hs0:=HS.out.bel.size
  have hs1:=HB1.out.size
  have hbf0:=HS.out.bf0
  have htl:=HT.out.lt
  have hx1l:=HX1.out.lt
  have t1:=HT.out.j
  have T1:Hid (w0.cell? ⟨bt,1,none⟩=some (.slice (some ⟨jb,joff,none⟩) v.m jc)):=t1
  have D2:Hid (w0.cell? ⟨jb,joff+j*3+2,none⟩=some (.slice ea (v.J j).ne ec)):=d2
  have hfo:Hid (∀ g,fv.ownBlock=some g→g<w.heap.size):=fun g hg=>(HS.out.own.lt hg).2
  clear hw9 hw8 hb1 HS0 HX0 HB0 hns hc hjc hEs d2 t1 x0
  go_wp2_with fail
  go_loopw [36] (fun i wr=>∃ (k:Nat) (vs':Array Value) (fv':Value) (fl' sl':List Rw),k≤xs.length∧i=.int .i64 k∧Hid (FkS w0 bt bf lv at' wr vs' fv' fl' sl')∧Hid (Fr (fun k=>k=bf∨fv.ownBlock=some k) w1 wr)∧Hid (Moved w1 fv fv')∧Hid (Once 0 1 v.n sl')∧fl'.length≤sl'.length∧2*v.n+1≤f+sl'.length∧Hid (fl' ++ (v.flx li at' f j (xs.drop k) sl').2=fl ++ (v.flx li at' f j xs sl).2)∧Hid ((v.flx li at' f j (xs.drop k) sl').1=(v.flx li at' f j xs sl).1)) (fun i _=>xs.length-(intOf i).toNat)
  case atStart=>exact ⟨0,vs,fv,fl,sl,Nat.zero_le _,rfl,HS1,Fr.refl _ _,Moved.refl _ _,HON,hn,hf,rfl,rfl⟩
  case round=>
   obtain ⟨k,vs',fv',fl',sl',hk9,rfl,HSr,HFr,HMr,HOr,hn',hf',HE1,HE2⟩:=hrel
   by_cases hlt:k<xs.length
   ·have HXK:Hid (xs.drop k=xs.getD k 0 :: xs.drop (k+1)):=by
     show _=_
     rw [List.drop_eq_getElem_cons hlt]
     simp [List.getD_eq_getElem?_getD,hlt]
    have hxk:xs.getD k 0<4:=HXS.out _ (by rw [List.getD_eq_getElem?_getD,List.getElem?_eq_getElem hlt];simp)
    have hcx:wr.cell? ⟨b,off+k,none⟩=some (.int .i64 ((xs.getD k 0:Nat):Int)):=(HFr.out.cell hbl1 (fun h=>h.elim (fun e=>by omega) (fun e=>by have:=hfo.out _ e;omega))).trans (HC.out k hlt)
    rw [HXK.out] at HE1 HE2
    generalize xs.getD k 0=x at *
    obtain ⟨b2,off2,rfl,_,hb2,hc2⟩:=HEs.out (by omega)
    have s0:w0.cell? ⟨b2,off2+x*2,none⟩=some (.int .i64 ((v.J j).E x).pc):=(hc2 x (by omega)).1
    have s1:w0.cell? ⟨b2,off2+x*2+1,none⟩=some (.int .i64 ((v.J j).E x).sd):=(hc2 x (by omega)).2
    have HEN:Hid (EnOk v ((v.J j).E x)):=OK.out.enOk hj (by omega)
    have y0:=cell_keep HSr.out.bel hb2 s0
    have y1:=cell_keep HSr.out.bel hb2 s1
    have y2:=cell_keep HSr.out.bel hjb D2.out
    have y3:=cell_keep HSr.out.bel htl T1.out
    have y4:wr.cell? ⟨bf,0,none⟩=some (.pointer (some ⟨bt,0,none⟩)):=(HSr.out.box.cell 0).trans HSr.out.v0
    have HXr:Hid (Box wr w.heap.size 128 #[.int .i64 (j:Int),.int .i64 (q:Int)]):=HX1.out.keep (HFr.out.block _ hx1l (fun h=>h.elim (fun e=>by omega) (fun e=>by have:=hfo.out _ e;omega)))
    have y5:wr.cell? ⟨w.heap.size,0,none⟩=some (.int .i64 (j:Int)):=HXr.out.cell 0
    have hji:(j:Int)<(v.m:Int):=by omega
    have hxi:(x:Int)<((v.J j).ne:Int):=by omega
    have hx0:(0:Int)≤(x:Int):=by omega
    have hxk':(x:Int)<4:=by omega
    have hxm:x<(v.J j).ne:=by omega
    have hj0:(0:Int)≤(j:Int):=by omega
    have HSd:Hid (FkS w0 bt bf lv at' wr.drew vs' fv' fl' sl'):=HSr.out.below (Below.refl _ _).drew
    have HFd:Hid (Fr (fun k=>k=bf∨fv.ownBlock=some k) w1 wr.drew):=HFr.out.drew
    have HXd:Hid (Box wr.drew w.heap.size 128 #[.int .i64 (j:Int),.int .i64 (q:Int)]):=HXr.out.drew
    have hwrs:=HFr.out.size
    have hwxl:=HXr.out.lt
    have S0:Hid (w0.cell? ⟨b2,off2+x*2,none⟩=some (.int .i64 ((v.J j).E x).pc)):=s0
    have S1:Hid (w0.cell? ⟨b2,off2+x*2+1,none⟩=some (.int .i64 ((v.J j).E x).sd)):=s1
    clear s0 s1 hc2 HSr HXr HFr
    go_wp2_with fail
    go_region_held3 (fun w'=>w'.cell? ⟨bf,0,none⟩=some (.pointer (some ⟨bt,0,none⟩))∧w'.cell? ⟨bt,1,none⟩=some (.slice (some ⟨jb,joff,none⟩) v.m jc)∧w'.cell? ⟨w.heap.size,0,none⟩=some (.int .i64 (j:Int))∧w'.cell? ⟨jb,joff+j*3+2,none⟩=some (.slice (some ⟨b2,off2,none⟩) (v.J j).ne ec)∧w'.cell? ⟨b2,off2+x*2,none⟩=some (.int .i64 ((v.J j).E x).pc)∧w'.cell? ⟨b2,off2+x*2+1,none⟩=some (.int .i64 ((v.J j).E x).sd)) (go_keep) (first
     | (go_at_call 74;refine (IH.out _ vs' fv' fl' sl' ((v.J j).E x) HEN.out HSd.out HOr.out hn' hf').mono ?_;rintro e w2 ⟨rfl,vs2,fv2,hS2,hF2,hM2⟩;have m0:w2.cell? ⟨bf,0,none⟩=some (.pointer (some ⟨bt,0,none⟩)):=(hS2.box.cell 0).trans hS2.v0;have m1:=cell_keep hS2.bel htl T1.out;have m2:w2.cell? ⟨w.heap.size,0,none⟩=some (.int .i64 (j:Int)):=(HXd.out.keep (hF2.block _ hwxl (fun h=>h.elim (fun e=>by omega) (fun e=>HSd.out.own.off HXd.out (by decide) e rfl)))).cell 0;have m3:=cell_keep hS2.bel hjb D2.out;have m4:=cell_keep hS2.bel hb2 S0.out;have m5:=cell_keep hS2.bel hb2 S1.out))
    all_goals
     have hg:=fl_grow OK.out li at' f sl' ((v.J j).E x) HOr.out HEN.out
     have HS2:Hid (FkS w0 bt bf lv at' w2 vs2 fv2 (fl' ++ (v.fl li at' f sl' ((v.J j).E x)).2) (v.fl li at' f sl' ((v.J j).E x)).1):=hS2
     have HF2:Hid (Fr (fun k=>k=bf∨fv.ownBlock=some k) w1 w2):=HFd.out.then hF2 (fun i hi hy=>hy.elim .inl (fun e=>(HMr.out i e).elim .inr (fun h=>by omega)))
     have HM2:Hid (Moved w1 fv fv2):=HMr.out.trans hM2 hwrs
     have HO2:Hid (Once 0 1 v.n (v.fl li at' f sl' ((v.J j).E x)).1):=hg.1
     have hn2:(fl' ++ (v.fl li at' f sl' ((v.J j).E x)).2).length≤(v.fl li at' f sl' ((v.J j).E x)).1.length:=by
      have:=hg.2.2.1
      rw [List.length_append]
      omega
     have hf2:2*v.n+1≤f+(v.fl li at' f sl' ((v.J j).E x)).1.length:=by
      have:=hg.2.1
      omega
     have HE3:Hid ((fl' ++ (v.fl li at' f sl' ((v.J j).E x)).2) ++ (v.flx li at' f j (xs.drop (k+1)) (v.fl li at' f sl' ((v.J j).E x)).1).2=fl ++ (v.flx li at' f j xs sl).2):=by
      have:=HE1.out
      simp only [Ev.flx] at this
      rw [List.append_assoc]
      exact this
     have HE4:Hid ((v.flx li at' f j (xs.drop (k+1)) (v.fl li at' f sl' ((v.J j).E x)).1).1=(v.flx li at' f j xs sl).1):=by
      have:=HE2.out
      simp only [Ev.flx] at this
      exact this
     generalize (v.fl li at' f sl' ((v.J j).E x)).1=sl2 at *
     generalize fl' ++ (v.fl li at' f sl' ((v.J j).E x)).2=fl2 at *
     clear hg hS2 hF2 hM2 m0 m1 m2 m3 m4 m5 HSd HFd HXd S0 S1 HE1 HE2 HOr HMr y0 y1 y2 y3 y4 y5 hcx
     go_wp2_with fail
     go_roundw
     case rel=>exact ⟨k+1,vs2,fv2,fl2,sl2,by omega,by go_num,HS2,HF2,HM2,HO2,hn2,hf2,HE3,HE4⟩
     case measure=>simp [intOf];omega
   ·obtain rfl:k=xs.length:=by omega
    rw [List.drop_length] at HE1 HE2
    have HP:Hid (FkTo w0 bt bf lv at' w fv (fl ++ (v.flx li at' f j xs sl).2) (v.flx li at' f j xs sl).1 (.returned (.tuple #[])) wr):=by
     have e1:=HE1.out
     have e2:=HE2.out
     simp only [Ev.flx,List.append_nil] at e1 e2
     rw [← e1,← e2]
     exact ⟨rfl,vs',fv',HSr.out,(Fr.of_below HB1.out).trans (HFr.out.mono fun _ _ h=>h),HMr.out.old hs1⟩
    clear HE1 HE2 HSr HFr HMr HOr
    go_wp2_with fail
    exact bodyPost_ret (results_none rfl _ _ _) rfl HP.out
set_option maxRecDepth 100000 in
set_option maxHeartbeats 8000000 in
theorem over105_tip {v:Ev}(ok:v.Ok){w0:World}{bt bf:Nat}{pa:Option Addr}{pc:Nat}{ja:Option Addr}{jc:Nat}{sa:Option Addr}{sc:Nat}{lv:Value}{at':Int}(j q:Nat)(w:World)(vs:Array Value)(fv:Value)(fl sl:List Rw)(ht:TkAt w0 bt v pa pc ja jc sa sc)(h:FkS w0 bt bf lv at' w vs fv fl sl)(li:List Rw)(f:Nat)(ih:FkC v w0 bt bf lv li at' f)(ho:Once 0 1 v.n sl)(hn:fl.length≤sl.length)(hf:2*v.n+1≤f+sl.length)(hj:j<v.m)(hk:(v.J j).kd=3)(hq:q=0):
 Calls Tryz.prog 105 #[.pointer (some ⟨bf,0,none⟩),.agg #[.int .i64 (j:Int),.int .i64 (q:Int)]] w (FkTo w0 bt bf lv at' w fv (fl ++ (v.flx li at' f j (acrossF 3 q) sl).2) (v.flx li at' f j (acrossF 3 q) sl).1):=by
 have t1:=ta99_97
 have t2:=ta99_99
 have g1:((q:Int) == 0)=true:=by simp [hq]
 have hne:(v.J j).ne=3:=by have:=(ok.kd j hj).2.2;omega
 have HXS:Hid (∀ x,x ∈ acrossF 3 q→x<3):=by
  show ∀ x,x ∈ acrossF 3 q→x<3
  subst hq;simp [acrossF]
 have hxn:0<(acrossF 3 q).length∧(acrossF 3 q).length≤2:=by
  subst hq;simp [acrossF]
 have HT:Hid (TkAt w0 bt v pa pc ja jc sa sc):=ht
 have HS:Hid (FkS w0 bt bf lv at' w vs fv fl sl):=h
 have OK:Hid v.Ok:=ok
 have IH:Hid (FkC v w0 bt bf lv li at' f):=ih
 have HON:Hid (Once 0 1 v.n sl):=ho
 have hm1:=ok.m1
 have hq4:q<3:=by omega
 clear hq
 clear h ht ok ih ho
 go_enter Tryz.func105,Tryz.ntmps105
 go_wp2_with fail
 have S0:=HS.out.below (bel1 w (.cells #[.int .i64 (j:Int),.int .i64 (q:Int)] 128)).drew
 have T0:Hid (TkAt (w.alloc (.cells #[.int .i64 (j:Int),.int .i64 (q:Int)] 128)).drew bt v pa pc ja jc sa sc):=HT.out.mono S0.bel lr
 have HS0:Hid (FkS w0 bt bf lv at' (w.alloc (.cells #[.int .i64 (j:Int),.int .i64 (q:Int)] 128)).drew vs fv fl sl):=S0
 have x0:w.cell? ⟨bf,0,none⟩=some (.pointer (some ⟨bt,0,none⟩)):=(HS.out.box.cell 0).trans HS.out.v0
 have hbl:=HS.out.box.lt
 clear S0
 go_region_held3 (fun w'=>w'.cell? ⟨bf,0,none⟩=some (.pointer (some ⟨bt,0,none⟩))∧w'.cell? ⟨w.heap.size,0,none⟩=some (.int .i64 (j:Int))∧w'.cell? ⟨w.heap.size,1,none⟩=some (.int .i64 (q:Int))) (go_keep) (first
  | (go_at_call 99;refine (kind99 OK.out j _ T0.out hj).mono ?_;rintro e w1 ⟨rfl,rfl⟩))
 all_goals
  clear T0
  rw [show kindV 3=.iface 194 (.agg #[]) from rfl]
  have hw9:(w.alloc (.cells #[.int .i64 (j:Int),.int .i64 (q:Int)] 128)).drew.cell? ⟨w.heap.size,0,none⟩=some (.int .i64 (j:Int)):=((Box.new w 128 #[.int .i64 (j:Int),.int .i64 (q:Int)]).drew).cell 0
  have hw8:(w.alloc (.cells #[.int .i64 (j:Int),.int .i64 (q:Int)] 128)).drew.cell? ⟨w.heap.size,1,none⟩=some (.int .i64 (q:Int)):=((Box.new w 128 #[.int .i64 (j:Int),.int .i64 (q:Int)]).drew).cell 1
  have HB0:Hid (Below w.heap.size w (w.alloc (.cells #[.int .i64 (j:Int),.int .i64 (q:Int)] 128)).drew):=(bel1 w _).drew
  have HX0:Hid (Box (w.alloc (.cells #[.int .i64 (j:Int),.int .i64 (q:Int)] 128)).drew w.heap.size 128 #[.int .i64 (j:Int),.int .i64 (q:Int)]):=(Box.new w 128 _).drew
  have hz0:(w.alloc (.cells #[.int .i64 (j:Int),.int .i64 (q:Int)] 128)).drew.heap.size=w.heap.size+1:=by simp
  go_wp2_with fail
  refine (overSwitch q _ (by omega)).mono ?_
  rintro e w1 ⟨a,cap,rfl,hns,hb1⟩
  have HS1:Hid (FkS w0 bt bf lv at' w1 vs fv fl sl):=HS0.out.below hb1
  have HX1:Hid (Box w1 w.heap.size 128 #[.int .i64 (j:Int),.int .i64 (q:Int)]):=HX0.out.mono hb1 lr
  have HB1:Hid (Below w.heap.size w w1):=HB0.out.trans (hb1.mono HB0.out.size)
  generalize acrossF 3 q=xs at *
  obtain ⟨b,off,rfl,hbb,hbl1,hc⟩:=hns hxn.1
  rw [hz0] at hbb
  have HC:Hid (∀ i,i<xs.length→w1.cell? ⟨b,off+i,none⟩=some (.int .i64 ((xs.getD i 0:Nat):Int))):=fun i hi=>by have:=hc i hi 0 (by omega);simpa using this
  obtain ⟨jb,joff,rfl,_,hjb,hjc⟩:=HT.out.net.j (by omega)
  obtain ⟨ea,ec,_,_,d2,hEs⟩:=hjc j hj
  have HEs:Hid (EsAt 0 w0 ea (v.J j).ne (v.J j).E):=hEs
  have hs0:=HS.out.bel.size
  have hs1:=HB1.out.size
  have hbf0:=HS.out.bf0
  have htl:=HT.out.lt
  have hx1l:=HX1.out.lt
  have t1:=HT.out.j
  have T1:Hid (w0.cell? ⟨bt,1,none⟩=some (.slice (some ⟨jb,joff,none⟩) v.m jc)):=t1
  have D2:Hid (w0.cell? ⟨jb,joff+j*3+2,none⟩=some (.slice ea (v.J j).ne ec)):=d2
  have hfo:Hid (∀ g,fv.ownBlock=some g→g<w.heap.size):=fun g hg=>(HS.out.own.lt hg).2
  clear hw9 hw8 hb1 HS0 HX0 HB0 hns hc hjc hEs d2 t1 x0
  go_wp2_with fail
  go_loopw [36] (fun i wr=>∃ (k:Nat) (vs':Array Value) (fv':Value) (fl' sl':List Rw),k≤xs.length∧i=.int .i64 k∧Hid (FkS w0 bt bf lv at' wr vs' fv' fl' sl')∧Hid (Fr (fun k=>k=bf∨fv.ownBlock=some k) w1 wr)∧Hid (Moved w1 fv fv')∧Hid (Once 0 1 v.n sl')∧fl'.length≤sl'.length∧2*v.n+1≤f+sl'.length∧Hid (fl' ++ (v.flx li at' f j (xs.drop k) sl').2=fl ++ (v.flx li at' f j xs sl).2)∧Hid ((v.flx li at' f j (xs.drop k) sl').1=(v.flx li at' f j xs sl).1)) (fun i _=>xs.length-(intOf i).toNat)
  case atStart=>exact ⟨0,vs,fv,fl,sl,Nat.zero_le _,rfl,HS1,Fr.refl _ _,Moved.refl _ _,HON,hn,hf,rfl,rfl⟩
  case round=>
   obtain ⟨k,vs',fv',fl',sl',hk9,rfl,HSr,HFr,HMr,HOr,hn',hf',HE1,HE2⟩:=hrel
   by_cases hlt:k<xs.length
   ·have HXK:Hid (xs.drop k=xs.getD k 0 :: xs.drop (k+1)):=by
     show _=_
     rw [List.drop_eq_getElem_cons hlt]
     simp [List.getD_eq_getElem?_getD,hlt]
    have hxk:xs.getD k 0<3:=HXS.out _ (by rw [List.getD_eq_getElem?_getD,List.getElem?_eq_getElem hlt];simp)
    have hcx:wr.cell? ⟨b,off+k,none⟩=some (.int .i64 ((xs.getD k 0:Nat):Int)):=(HFr.out.cell hbl1 (fun h=>h.elim (fun e=>by omega) (fun e=>by have:=hfo.out _ e;omega))).trans (HC.out k hlt)
    rw [HXK.out] at HE1 HE2
    generalize xs.getD k 0=x at *
    obtain ⟨b2,off2,rfl,_,hb2,hc2⟩:=HEs.out (by omega)
    have s0:w0.cell? ⟨b2,off2+x*2,none⟩=some (.int .i64 ((v.J j).E x).pc):=(hc2 x (by omega)).1
    have s1:w0.cell? ⟨b2,off2+x*2+1,none⟩=some (.int .i64 ((v.J j).E x).sd):=(hc2 x (by omega)).2
    have HEN:Hid (EnOk v ((v.J j).E x)):=OK.out.enOk hj (by omega)
    have y0:=cell_keep HSr.out.bel hb2 s0
    have y1:=cell_keep HSr.out.bel hb2 s1
    have y2:=cell_keep HSr.out.bel hjb D2.out
    have y3:=cell_keep HSr.out.bel htl T1.out
    have y4:wr.cell? ⟨bf,0,none⟩=some (.pointer (some ⟨bt,0,none⟩)):=(HSr.out.box.cell 0).trans HSr.out.v0
    have HXr:Hid (Box wr w.heap.size 128 #[.int .i64 (j:Int),.int .i64 (q:Int)]):=HX1.out.keep (HFr.out.block _ hx1l (fun h=>h.elim (fun e=>by omega) (fun e=>by have:=hfo.out _ e;omega)))
    have y5:wr.cell? ⟨w.heap.size,0,none⟩=some (.int .i64 (j:Int)):=HXr.out.cell 0
    have hji:(j:Int)<(v.m:Int):=by omega
    have hxi:(x:Int)<((v.J j).ne:Int):=by omega
    have hx0:(0:Int)≤(x:Int):=by omega
    have hxk':(x:Int)<3:=by omega
    have hxm:x<(v.J j).ne:=by omega
    have hj0:(0:Int)≤(j:Int):=by omega
    have HSd:Hid (FkS w0 bt bf lv at' wr.drew vs' fv' fl' sl'):=HSr.out.below (Below.refl _ _).drew
    have HFd:Hid (Fr (fun k=>k=bf∨fv.ownBlock=some k) w1 wr.drew):=HFr.out.drew
    have HXd:Hid (Box wr.drew w.heap.size 128 #[.int .i64 (j:Int),.int .i64 (q:Int)]):=HXr.out.drew
    have hwrs:=HFr.out.size
    have hwxl:=HXr.out.lt
    have S0:Hid (w0.cell? ⟨b2,off2+x*2,none⟩=some (.int .i64 ((v.J j).E x).pc)):=s0
    have S1:Hid (w0.cell? ⟨b2,off2+x*2+1,none⟩=some (.int .i64 ((v.J j).E x).sd)):=s1
    clear s0 s1 hc2 HSr HXr HFr
    go_wp2_with fail
    go_region_held3 (fun w'=>w'.cell? ⟨bf,0,none⟩=some (.pointer (some ⟨bt,0,none⟩))∧w'.cell? ⟨bt,1,none⟩=some (.slice (some ⟨jb,joff,none⟩) v.m jc)∧w'.cell? ⟨w.heap.size,0,none⟩=some (.int .i64 (j:Int))∧w'.cell? ⟨jb,joff+j*3+2,none⟩=some (.slice (some ⟨b2,off2,none⟩) (v.J j).ne ec)∧w'.cell? ⟨b2,off2+x*2,none⟩=some (.int .i64 ((v.J j).E x).pc)∧w'.cell? ⟨b2,off2+x*2+1,none⟩=some (.int .i64 ((v.J j).E x).sd)) (go_keep) (first
     | (go_at_call 74;refine (IH.out _ vs' fv' fl' sl' ((v.J j).E x) HEN.out HSd.out HOr.out hn' hf').mono ?_;rintro e w2 ⟨rfl,vs2,fv2,hS2,hF2,hM2⟩;have m0:w2.cell? ⟨bf,0,none⟩=some (.pointer (some ⟨bt,0,none⟩)):=(hS2.box.cell 0).trans hS2.v0;have m1:=cell_keep hS2.bel htl T1.out;have m2:w2.cell? ⟨w.heap.size,0,none⟩=some (.int .i64 (j:Int)):=(HXd.out.keep (hF2.block _ hwxl (fun h=>h.elim (fun e=>by omega) (fun e=>HSd.out.own.off HXd.out (by decide) e rfl)))).cell 0;have m3:=cell_keep hS2.bel hjb D2.out;have m4:=cell_keep hS2.bel hb2 S0.out;have m5:=cell_keep hS2.bel hb2 S1.out))
    all_goals
     have hg:=fl_grow OK.out li at' f sl' ((v.J j).E x) HOr.out HEN.out
     have HS2:Hid (FkS w0 bt bf lv at' w2 vs2 fv2 (fl' ++ (v.fl li at' f sl' ((v.J j).E x)).2) (v.fl li at' f sl' ((v.J j).E x)).1):=hS2
     have HF2:Hid (Fr (fun k=>k=bf∨fv.ownBlock=some k) w1 w2):=HFd.out.then hF2 (fun i hi hy=>hy.elim .inl (fun e=>(HMr.out i e).elim .inr (fun h=>by omega)))
     have HM2:Hid (Moved w1 fv fv2):=HMr.out.trans hM2 hwrs
     have HO2:Hid (Once 0 1 v.n (v.fl li at' f sl' ((v.J j).E x)).1):=hg.1
     have hn2:(fl' ++ (v.fl li at' f sl' ((v.J j).E x)).2).length≤(v.fl li at' f sl' ((v.J j).E x)).1.length:=by
      have:=hg.2.2.1
      rw [List.length_append]
      omega
     have hf2:2*v.n+1≤f+(v.fl li at' f sl' ((v.J j).E x)).1.length:=by
      have:=hg.2.1
      omega
     have HE3:Hid ((fl' ++ (v.fl li at' f sl' ((v.J j).E x)).2) ++ (v.flx li at' f j (xs.drop (k+1)) (v.fl li at' f sl' ((v.J j).E x)).1).2=fl ++ (v.flx li at' f j xs sl).2):=by
      have:=HE1.out
      simp only [Ev.flx] at this
      rw [List.append_assoc]
      exact this
     have HE4:Hid ((v.flx li at' f j (xs.drop (k+1)) (v.fl li at' f sl' ((v.J j).E x)).1).1=(v.flx li at' f j xs sl).1):=by
      have:=HE2.out
      simp only [Ev.flx] at this
      exact this
     generalize (v.fl li at' f sl' ((v.J j).E x)).1=sl2 at *
     generalize fl' ++ (v.fl li at' f sl' ((v.J j).E x)).2=fl2 at *
     clear hg hS2 hF2 hM2 m0 m1 m2 m3 m4 m5 HSd HFd HXd S0 S1 HE1 HE2 HOr HMr y0 y1 y2 y3 y4 y5 hcx
     go_wp2_with fail
     go_roundw
     case rel=>exact ⟨k+1,vs2,fv2,fl2,sl2,by omega,by go_num,HS2,HF2,HM2,HO2,hn2,hf2,HE3,HE4⟩
     case measure=>simp [intOf];omega
   ·obtain rfl:k=xs.length:=by omega
    rw [List.drop_length] at HE1 HE2
    have HP:Hid (FkTo w0 bt bf lv at' w fv (fl ++ (v.flx li at' f j xs sl).2) (v.flx li at' f j xs sl).1 (.returned (.tuple #[])) wr):=by
     have e1:=HE1.out
     have e2:=HE2.out
     simp only [Ev.flx,List.append_nil] at e1 e2
     rw [← e1,← e2]
     exact ⟨rfl,vs',fv',HSr.out,(Fr.of_below HB1.out).trans (HFr.out.mono fun _ _ h=>h),HMr.out.old hs1⟩
    clear HE1 HE2 HSr HFr HMr HOr
    go_wp2_with fail
    exact bodyPost_ret (results_none rfl _ _ _) rfl HP.out
def Ev.ovr (v:Ev)(li:List Rw)(at':Int)(f j q:Nat)(sl:List Rw):List Rw × List Rw:=
 if (v.J j).kd=1 then (sl,[[at',1,(j:Int),0]]) else if (v.J j).kd=3∧q≠0 then (sl,[turnF li at' j q]) else v.flx li at' f j (acrossF (v.J j).kd.toNat q) sl
def LieK (li:List Rw):Prop:=∀ j q:Nat,0<q→((lieF li (j:Int)).getD 0=(q:Int)↔[(j:Int),(q:Int)] ∈ li)
theorem over105 {v:Ev}(ok:v.Ok){w0:World}{bt bf:Nat}{pa:Option Addr}{pc:Nat}{ja:Option Addr}{jc:Nat}{sa:Option Addr}{sc:Nat}{lv:Value}{at':Int}(j q:Nat)(w:World)(vs:Array Value)(fv:Value)(fl sl:List Rw)(ht:TkAt w0 bt v pa pc ja jc sa sc)(h:FkS w0 bt bf lv at' w vs fv fl sl)(li:List Rw)(hl:LsAt 2 0 w0 lv li)(hll:li.length≤1048576)(f:Nat)(ih:FkC v w0 bt bf lv li at' f)(ho:Once 0 1 v.n sl)(hn:fl.length≤sl.length)(hf:2*v.n+1≤f+sl.length)(hj:j<v.m)(hq:q<(v.J j).ne):
 Calls Tryz.prog 105 #[.pointer (some ⟨bf,0,none⟩),.agg #[.int .i64 (j:Int),.int .i64 (q:Int)]] w (FkTo w0 bt bf lv at' w fv (fl ++ (v.ovr li at' f j q sl).2) (v.ovr li at' f j q sl).1):=by
 have hk:=ok.kd j hj
 have hn9:fl.length≤1048575:=by have:=ho.len;have:=ok.n1;omega
 rcases (show (v.J j).kd=1∨(v.J j).kd=2∨(v.J j).kd=3∨(v.J j).kd=4 by omega) with e | e | e | e
 ·have h1:v.ovr li at' f j q sl=(sl,[[at',1,(j:Int),0]]):=by simp [Ev.ovr,e]
  rw [h1]
  exact over105_buf ok j q w vs fv fl sl ht h hn9 hj e
 ·have h1:v.ovr li at' f j q sl=v.flx li at' f j (acrossF 2 q) sl:=by simp [Ev.ovr,e]
  rw [h1]
  exact over105_plain ok j q w vs fv fl sl ht h li f ih ho hn hf hj e (by omega)
 ·by_cases hq0:q=0
  ·have h1:v.ovr li at' f j q sl=v.flx li at' f j (acrossF 3 q) sl:=by simp [Ev.ovr,e,hq0]
   rw [h1]
   exact over105_tip ok j q w vs fv fl sl ht h li f ih ho hn hf hj e hq0
  ·have h1:v.ovr li at' f j q sl=(sl,[turnF li at' j q]):=by simp [Ev.ovr,e,hq0]
   rw [h1]
   exact over105_turn ok j q w vs fv fl sl ht h hn9 hj e li hl hll (by omega) (by omega)
 ·have h1:v.ovr li at' f j q sl=v.flx li at' f j (acrossF 4 q) sl:=by simp [Ev.ovr,e]
  rw [h1]
  exact over105_cross ok j q w vs fv fl sl ht h li f ih ho hn hf hj e (by omega)
theorem fl_ovr {v:Ev}(ok:v.Ok){li:List Rw}{at':Int}{f j q:Nat}{sl:List Rw}{e:En}(hli:LieK li)(h:[e.pc,e.sd] ∉ sl)(hb:lastS (v.P e.pc.toNat).ln v.S e.pc (if e.sd=0 then -1 else 1) v.k=none)(ha:v.at ⟨e.pc,1-e.sd⟩=(j,q))(hj:j<v.m)(hq:q<(v.J j).ne):
 v.fl li at' (f+1) sl e=v.ovr li at' f j q (sl ++ [[e.pc,e.sd]]):=by
 have hk:=ok.kd j hj
 rcases (show (v.J j).kd=1∨(v.J j).kd=2∨(v.J j).kd=3∨(v.J j).kd=4 by omega) with e1 | e1 | e1 | e1
 ·rw [fl_buf h hb ha e1]
  simp [Ev.ovr,e1]
 ·rcases (show q=0∨q=1 by omega) with rfl | rfl
  ·rw [fl_on h hb ha (by omega) (by omega) (x:=1) (by rw [e1];rfl)]
   simp [Ev.ovr,e1,acrossF,Ev.flx]
  ·rw [fl_on h hb ha (by omega) (by omega) (x:=0) (by rw [e1];rfl)]
   simp [Ev.ovr,e1,acrossF,Ev.flx]
 ·by_cases hq0:q=0
  ·subst hq0
   rw [fl_tip h hb ha e1]
   simp [Ev.ovr,e1,acrossF,Ev.flx]
  ·by_cases hm:[(j:Int),(q:Int)] ∈ li
   ·rw [fl_open h hb ha e1 hq0 hm]
    simp [Ev.ovr,e1,hq0,turnF,(hli j q (by omega)).2 hm]
   ·rw [fl_shut h hb ha e1 hq0 hm]
    have:¬(lieF li (j:Int)).getD 0=(q:Int):=fun hh=>hm ((hli j q (by omega)).1 hh)
    simp [Ev.ovr,e1,hq0,turnF,this]
 ·rcases (show q=0∨q=1∨q=2∨q=3 by omega) with rfl | rfl | rfl | rfl
  ·rw [fl_on h hb ha (by omega) (by omega) (x:=1) (by rw [e1];rfl)]
   simp [Ev.ovr,e1,acrossF,Ev.flx]
  ·rw [fl_on h hb ha (by omega) (by omega) (x:=0) (by rw [e1];rfl)]
   simp [Ev.ovr,e1,acrossF,Ev.flx]
  ·rw [fl_on h hb ha (by omega) (by omega) (x:=3) (by rw [e1];rfl)]
   simp [Ev.ovr,e1,acrossF,Ev.flx]
  ·rw [fl_on h hb ha (by omega) (by omega) (x:=2) (by rw [e1];rfl)]
   simp [Ev.ovr,e1,acrossF,Ev.flx]
theorem lookAt.snoc {vs:Array Value}{sl:List Rw}(h:lookAt vs sl)(p s:Nat)(hp:p<100)(hs:s<2):lookAt (vs.setIfInBounds (3+p*2+s) (.bool true)) (sl ++ [[(p:Int),(s:Int)]]):=by
 intro p' s' hp' hs'
 have hz:3+p*2+s<vs.size:=(Array.getElem?_eq_some_iff.1 (h p s hp hs)).1
 by_cases e:p'=p∧s'=s
 ·obtain ⟨rfl,rfl⟩:=e
  rw [Array.getElem?_setIfInBounds_self_of_lt hz]
  simp
 ·rw [Array.getElem?_setIfInBounds_ne (by omega),h p' s' hp' hs']
  have:¬([(p':Int),(s':Int)]=[(p:Int),(s:Int)]):=by
   simp
   omega
  have h2:[(p':Int),(s':Int)] ∈ sl ++ [[(p:Int),(s:Int)]]↔[(p':Int),(s':Int)] ∈ sl:=by
   rw [List.mem_append,List.mem_singleton]
   exact ⟨fun h=>h.elim id (fun h=>absurd h this),.inl⟩
  simp only [h2]
theorem FkS.mark {w0:World}{bt bf:Nat}{lv:Value}{at':Int}{w:World}{vs:Array Value}{fv:Value}{fl sl:List Rw}(h:FkS w0 bt bf lv at' w vs fv fl sl)(p s:Nat)(hp:p<100)(hs:s<2):
 FkS w0 bt bf lv at' (w.setCell ⟨bf,3+p*2+s,none⟩ (.bool true)) (vs.setIfInBounds (3+p*2+s) (.bool true)) fv fl (sl ++ [[(p:Int),(s:Int)]]):=by
 refine ⟨h.bel.trans ((Fr.set (X:=fun k=>k=bf) _ _ rfl).below h.bel.size ?_),h.bf0,h.box.set _ _,?_,?_,?_,?_,h.own.set h.box (by decide) _ _,h.look.snoc p s hp hs⟩
 ·intro k hk e
  have:=h.bf0
  omega
 ·rw [Array.getElem?_setIfInBounds_ne (by omega)];exact h.v0
 ·rw [Array.getElem?_setIfInBounds_ne (by omega)];exact h.v1
 ·rw [Array.getElem?_setIfInBounds_ne (by omega)];exact h.v2
 ·rw [Array.getElem?_setIfInBounds_ne (by omega)];exact h.v203
set_option maxRecDepth 100000 in
set_option maxHeartbeats 8000000 in
theorem from74_step {v:Ev}(ok:v.Ok){w0:World}{bt bf:Nat}{pa:Option Addr}{pc:Nat}{ja:Option Addr}{jc:Nat}{sa:Option Addr}{sc:Nat}{lv:Value}{at':Int}(p s:Nat)(w:World)(vs:Array Value)(fv:Value)(fl sl:List Rw)(ht:TkAt w0 bt v pa pc ja jc sa sc)(h:FkS w0 bt bf lv at' w vs fv fl sl)(li:List Rw)(hl:LsAt 2 0 w0 lv li)(hll:li.length≤1048576)(hli:LieK li)(f:Nat)(ih:FkC v w0 bt bf lv li at' f)(ho:Once 0 1 v.n sl)(hn:fl.length≤sl.length)(hf:2*v.n+1≤f+1+sl.length)(hp:p<v.n)(hs:s<2):
 Calls Tryz.prog 74 #[.pointer (some ⟨bf,0,none⟩),.agg #[.int .i64 (p:Int),.int .i64 (s:Int)]] w (FkTo w0 bt bf lv at' w fv (fl ++ (v.fl li at' (f+1) sl ⟨(p:Int),(s:Int)⟩).2) (v.fl li at' (f+1) sl ⟨(p:Int),(s:Int)⟩).1):=by
 have HT:Hid (TkAt w0 bt v pa pc ja jc sa sc):=ht
 have HS:Hid (FkS w0 bt bf lv at' w vs fv fl sl):=h
 have OK:Hid v.Ok:=ok
 have IH:Hid (FkC v w0 bt bf lv li at' f):=ih
 have HON:Hid (Once 0 1 v.n sl):=ho
 have HLK:Hid (LieK li):=hli
 have HL:Hid (LsAt 2 0 w0 lv li):=hl
 have hn1:=ok.n1
 have hp1:(p:Int)<100:=by omega
 have hp0:(0:Int)≤(p:Int):=by omega
 have hs1:(s:Int)<2:=by omega
 have hs0:(0:Int)≤(s:Int):=by omega
 have x1:w.cell? ⟨bf,3+p*2+s,none⟩=some (.bool (decide ([(p:Int),(s:Int)] ∈ sl))):=(HS.out.box.cell _).trans (HS.out.look p s (by omega) hs)
 have x0:w.cell? ⟨bf,0,none⟩=some (.pointer (some ⟨bt,0,none⟩)):=(HS.out.box.cell 0).trans HS.out.v0
 have x2:=HS.out.box.free (3+p*2+s)
 have hbl:=HS.out.box.lt
 clear ht h ok ih ho hli hl
 by_cases hin:[(p:Int),(s:Int)] ∈ sl
 ·have hv:v.fl li at' (f+1) sl ⟨(p:Int),(s:Int)⟩=(sl,[]):=fl_in hin
  have HP:Hid (∀ w',Below w.heap.size w w'→FkTo w0 bt bf lv at' w fv (fl ++ (v.fl li at' (f+1) sl ⟨(p:Int),(s:Int)⟩).2) (v.fl li at' (f+1) sl ⟨(p:Int),(s:Int)⟩).1 (.returned (.tuple #[])) w'):=by
   intro w' hb
   rw [hv,List.append_nil]
   exact ⟨rfl,vs,fv,HS.out.below hb,Fr.of_below hb,Moved.refl _ _⟩
  have hd:decide ([(p:Int),(s:Int)] ∈ sl)=true:=by simp [hin]
  rw [hd] at x1
  clear hv hd hin
  generalize v.fl li at' (f+1) sl ⟨(p:Int),(s:Int)⟩=r at *
  go_enter Tryz.func74,Tryz.ntmps74
  go_wp2_with fail
  go_region
  all_goals
   go_wp2_with fail
   refine bodyPost_ret (results_none rfl _ _ _) rfl (HP.out _ ?_)
   first
    | exact (bel1 _ _).drew
    | exact bel1 _ _
 ·have hd:decide ([(p:Int),(s:Int)] ∈ sl)=false:=by simp [hin]
  rw [hd] at x1
  go_enter Tryz.func74,Tryz.ntmps74
  go_wp2_with fail
  go_region
  all_goals
   go_wp2_with fail
   go_region
   all_goals
    have HSM:Hid (FkS w0 bt bf lv at' ((w.setCell ⟨bf,3+p*2+s,none⟩ (.bool true)).alloc (.cells #[.int .i64 (p:Int),.int .i64 (s:Int)] 112)).drew.drew (vs.setIfInBounds (3+p*2+s) (.bool true)) fv fl (sl ++ [[(p:Int),(s:Int)]])):=(HS.out.mark p s (by omega) hs).below (bel1 _ _).drew.drew
    have HXM:Hid (Box ((w.setCell ⟨bf,3+p*2+s,none⟩ (.bool true)).alloc (.cells #[.int .i64 (p:Int),.int .i64 (s:Int)] 112)).drew.drew w.heap.size 112 #[.int .i64 (p:Int),.int .i64 (s:Int)]):=by
     have:=((Box.new (w.setCell ⟨bf,3+p*2+s,none⟩ (.bool true)) 112 #[.int .i64 (p:Int),.int .i64 (s:Int)]).drew).drew
     rw [size_setc] at this
     exact this
    have HFM:Hid (Fr (fun k=>k=bf∨fv.ownBlock=some k) w ((w.setCell ⟨bf,3+p*2+s,none⟩ (.bool true)).alloc (.cells #[.int .i64 (p:Int),.int .i64 (s:Int)] 112)).drew.drew):=(Fr.set (X:=fun k=>k=bf∨fv.ownBlock=some k) _ _ (.inl rfl)).trans (Fr.of_below (bel1 _ _).drew.drew)
    go_wp2_with fail
    generalize ((w.setCell ⟨bf,3+p*2+s,none⟩ (.bool true)).alloc (.cells #[.int .i64 (p:Int),.int .i64 (s:Int)] 112)).drew.drew=W at *
    have u0:W.cell? ⟨w.heap.size,0,none⟩=some (.int .i64 (p:Int)):=HXM.out.cell 0
    have u1:W.cell? ⟨w.heap.size,1,none⟩=some (.int .i64 (s:Int)):=HXM.out.cell 1
    have u2:W.cell? ⟨bf,0,none⟩=some (.pointer (some ⟨bt,0,none⟩)):=(HSM.out.box.cell 0).trans HSM.out.v0
    have hs9:((s:Int)=0∨(s:Int)=1):=by omega
    have hww:((if (s:Int)=0 then (-1:Int) else 1)=1∨(if (s:Int)=0 then (-1:Int) else 1)=-1):=by split <;> simp
    have HSD:Hid (FkS w0 bt bf lv at' W.drew (vs.setIfInBounds (3+p*2+s) (.bool true)) fv fl (sl ++ [[(p:Int),(s:Int)]])):=HSM.out.below (Below.refl _ _).drew
    have HXD:Hid (Box W.drew w.heap.size 112 #[.int .i64 (p:Int),.int .i64 (s:Int)]):=HXM.out.drew
    clear x0 x1 x2 hd
    generalize hway:(if (s:Int)=0 then (-1:Int) else 1)=way at *
    go_region_held3 (fun w'=>w'.cell? ⟨bf,0,none⟩=some (.pointer (some ⟨bt,0,none⟩))∧w'.cell? ⟨w.heap.size,0,none⟩=some (.int .i64 (p:Int))∧w'.cell? ⟨w.heap.size,1,none⟩=some (.int .i64 (s:Int))) (go_keep) (first
     | (go_at_call 103;refine (toward103 (p:Int) (s:Int) _ hs9).mono ?_;rintro e w3 ⟨he3,hb3⟩;rw [hway] at he3;subst he3;have S3:=HSD.out.below hb3;have T3:=HT.out.mono S3.bel lr;have X3:=HXD.out.mono hb3 lr;have m0:w3.cell? ⟨w.heap.size,0,none⟩=some (.int .i64 (p:Int)):=X3.cell 0;have m1:w3.cell? ⟨w.heap.size,1,none⟩=some (.int .i64 (s:Int)):=X3.cell 1;have m2:w3.cell? ⟨bf,0,none⟩=some (.pointer (some ⟨bt,0,none⟩)):=(S3.box.cell 0).trans S3.v0)
     | (go_at_call 102;refine (last102 OK.out p way _ T3 hp hww).mono ?_;rintro e w4 ⟨rfl,hb4⟩;have S4:=S3.below hb4;have X4:=X3.mono hb4 lr;have n0:w4.cell? ⟨w.heap.size,0,none⟩=some (.int .i64 (p:Int)):=X4.cell 0;have n1:w4.cell? ⟨w.heap.size,1,none⟩=some (.int .i64 (s:Int)):=X4.cell 1;have n2:w4.cell? ⟨bf,0,none⟩=some (.pointer (some ⟨bt,0,none⟩)):=(S4.box.cell 0).trans S4.v0))
    all_goals
     have HS4:Hid (FkS w0 bt bf lv at' w4 (vs.setIfInBounds (3+p*2+s) (.bool true)) fv fl (sl ++ [[(p:Int),(s:Int)]])):=S4
     have HX4:Hid (Box w4 w.heap.size 112 #[.int .i64 (p:Int),.int .i64 (s:Int)]):=X4
     have HF4:Hid (Fr (fun k=>k=bf∨fv.ownBlock=some k) w w4):=(HFM.out.drew.trans (Fr.of_below hb3)).trans (Fr.of_below hb4)
     have hz4:=HF4.out.size
     have HO4:Hid (Once 0 1 v.n (sl ++ [[(p:Int),(s:Int)]])):=HON.out.snoc hp hs9 hin
     have hn4:fl.length≤(sl ++ [[(p:Int),(s:Int)]]).length:=by rw [List.length_append];omega
     have hf4:2*v.n+1≤f+(sl ++ [[(p:Int),(s:Int)]]).length:=by
      rw [List.length_append]
      show _≤f+(sl.length+1)
      omega
     have hn9:fl.length≤1048575:=by have:=HON.out.len;omega
     have HIN:Hid (¬[(p:Int),(s:Int)] ∈ sl):=hin
     clear hin S3 T3 X3 S4 X4 m0 m1 m2 n0 n1 n2 u0 u1 u2 HSM HXM HFM HSD HXD hb3 hb4
     cases hls:lastS (v.P p).ln v.S (p:Int) way v.k with
     | some bb=>
      have HV:Hid (v.fl li at' (f+1) sl ⟨(p:Int),(s:Int)⟩=(sl ++ [[(p:Int),(s:Int)]],[[at',2,(bb:Int),0]])):=fl_sig HIN.out (by show lastS (v.P ((p:Int).toNat)).ln v.S (p:Int) (if (s:Int)=0 then -1 else 1) v.k=_;rw [hway,Int.toNat_natCast];exact hls)
      rw [show bestV (some bb)=(bb:Int) from rfl]
      have hbb:(0:Int)≤(bb:Int):=by omega
      clear hls
      go_wp2_with fail
      refine (find104 w0.heap.size bf _ fv fl at' 2 (bb:Int) 0 _ HS4.out.box HS4.out.v2 HS4.out.v203 HS4.out.bel.size HS4.out.own hn9).mono ?_
      rintro e w5 ⟨rfl,fv',ho2,hx2,hf2,hm2⟩
      have HP:Hid (FkTo w0 bt bf lv at' w fv (fl ++ (v.fl li at' (f+1) sl ⟨(p:Int),(s:Int)⟩).2) (v.fl li at' (f+1) sl ⟨(p:Int),(s:Int)⟩).1 (.returned (.tuple #[])) w5):=by rw [HV.out];exact ⟨rfl,_,fv',HS4.out.found ho2 hx2 hf2,HF4.out.trans hf2,hm2.old hz4⟩
      clear ho2 hx2 hf2 hm2
      go_wp2_with fail
      exact bodyPost_ret (results_none rfl _ _ _) rfl HP.out
     | none=>
      obtain ⟨j,q,hat,_,hjm,hqn,_,_,_,_⟩:=OK.out.there (e:=⟨(p:Int),1-(s:Int)⟩) hp0 (by show (p:Int)<v.n;omega) (by show 1-(s:Int)=0∨1-(s:Int)=1;omega)
      have HV:Hid (v.fl li at' (f+1) sl ⟨(p:Int),(s:Int)⟩=v.ovr li at' f j q (sl ++ [[(p:Int),(s:Int)]])):=fl_ovr OK.out HLK.out HIN.out (by show lastS (v.P ((p:Int).toNat)).ln v.S (p:Int) (if (s:Int)=0 then -1 else 1) v.k=_;rw [hway,Int.toNat_natCast];exact hls) hat hjm hqn
      have HHE:Hid (v.at (headE (p:Int) (wayOf ⟨(p:Int),(s:Int)⟩))=(j,q)):=by
       show _=_
       rw [← hat]
       rcases (show s=0∨s=1 by omega) with rfl | rfl <;> simp [headE,wayOf]
      have hw2:=wayOf_ok ⟨(p:Int),(s:Int)⟩
      rw [show bestV none=-1 from rfl]
      have HSD:Hid (FkS w0 bt bf lv at' w4.drew (vs.setIfInBounds (3+p*2+s) (.bool true)) fv fl (sl ++ [[(p:Int),(s:Int)]])):=HS4.out.below (Below.refl _ _).drew
      have HXD:Hid (Box w4.drew w.heap.size 112 #[.int .i64 (p:Int),.int .i64 (s:Int)]):=HX4.out.drew
      have u0:w4.cell? ⟨w.heap.size,0,none⟩=some (.int .i64 (p:Int)):=HX4.out.cell 0
      have u1:w4.cell? ⟨w.heap.size,1,none⟩=some (.int .i64 (s:Int)):=HX4.out.cell 1
      have u2:w4.cell? ⟨bf,0,none⟩=some (.pointer (some ⟨bt,0,none⟩)):=(HS4.out.box.cell 0).trans HS4.out.v0
      clear hls hat
      generalize hwy:wayOf ⟨(p:Int),(s:Int)⟩=wy at *
      go_wp2_with fail
      go_region_held3 (fun w'=>w'.cell? ⟨bf,0,none⟩=some (.pointer (some ⟨bt,0,none⟩))∧w'.cell? ⟨w.heap.size,0,none⟩=some (.int .i64 (p:Int))∧w'.cell? ⟨w.heap.size,1,none⟩=some (.int .i64 (s:Int))) (go_keep) (first
       | (go_at_call 101;refine (away101 (p:Int) (s:Int) _ hs9).mono ?_;rintro e w5 ⟨he5,hb5⟩;rw [hwy] at he5;subst he5;have S5:=HSD.out.below hb5;have T5:=HT.out.mono S5.bel lr;have X5:=HXD.out.mono hb5 lr;have m0:w5.cell? ⟨w.heap.size,0,none⟩=some (.int .i64 (p:Int)):=X5.cell 0;have m1:w5.cell? ⟨w.heap.size,1,none⟩=some (.int .i64 (s:Int)):=X5.cell 1;have m2:w5.cell? ⟨bf,0,none⟩=some (.pointer (some ⟨bt,0,none⟩)):=(S5.box.cell 0).trans S5.v0)
       | (go_at_call 98;refine (ahead98 OK.out p wy _ T5 hp hw2).mono ?_;rintro e w6 ⟨he6,hb6⟩;rw [HHE.out] at he6;subst he6;have S6:=S5.below hb6;have X6:=X5.mono hb6 lr;have n0:w6.cell? ⟨w.heap.size,0,none⟩=some (.int .i64 (p:Int)):=X6.cell 0;have n1:w6.cell? ⟨w.heap.size,1,none⟩=some (.int .i64 (s:Int)):=X6.cell 1;have n2:w6.cell? ⟨bf,0,none⟩=some (.pointer (some ⟨bt,0,none⟩)):=(S6.box.cell 0).trans S6.v0)
       | (go_at_call 105;refine (over105 OK.out j q _ _ fv fl _ HT.out S6 li HL.out hll f IH.out HO4.out hn4 hf4 hjm hqn).mono ?_;rintro e w7 ⟨rfl,vs7,fv7,hS7,hF7,hM7⟩;have X7:=X6.keep (hF7.block _ X6.lt (fun h=>h.elim (fun e=>by omega) (fun e=>S6.own.off X6 (by decide) e rfl)));have k0:w7.cell? ⟨w.heap.size,0,none⟩=some (.int .i64 (p:Int)):=X7.cell 0;have k1:w7.cell? ⟨w.heap.size,1,none⟩=some (.int .i64 (s:Int)):=X7.cell 1;have k2:w7.cell? ⟨bf,0,none⟩=some (.pointer (some ⟨bt,0,none⟩)):=(hS7.box.cell 0).trans hS7.v0))
      all_goals
       have HP:Hid (FkTo w0 bt bf lv at' w fv (fl ++ (v.fl li at' (f+1) sl ⟨(p:Int),(s:Int)⟩).2) (v.fl li at' (f+1) sl ⟨(p:Int),(s:Int)⟩).1 (.returned (.tuple #[])) w7):=by
        rw [HV.out]
        have z5:=hb5.size
        have z6:=hb6.size
        exact ⟨rfl,vs7,fv7,hS7,((HF4.out.drew.trans (Fr.of_below hb5)).trans (Fr.of_below hb6)).trans hF7,hM7.old (Nat.le_trans (Nat.le_trans hz4 z5) z6)⟩
       clear hS7 hF7 hM7 X7 k0 k1 k2 S6 X6 n0 n1 n2 S5 T5 X5 m0 m1 m2 u0 u1 u2 HSD HXD hb5 hb6
       first
        | (go_end0;exact HP.out)
        | (go_wp2_with fail
           first
            | (go_end0;exact HP.out)
            | exact bodyPost_ret (results_none rfl _ _ _) rfl HP.out)
theorem from74 {v:Ev}(ok:v.Ok){w0:World}{bt bf:Nat}{pa:Option Addr}{pc:Nat}{ja:Option Addr}{jc:Nat}{sa:Option Addr}{sc:Nat}{lv:Value}{at':Int}(ht:TkAt w0 bt v pa pc ja jc sa sc)(li:List Rw)(hl:LsAt 2 0 w0 lv li)(hll:li.length≤1048576)(hli:LieK li):∀ f:Nat,FkC v w0 bt bf lv li at' f
 | 0=>fun w vs fv fl sl e _ _ ho _ hf=>by
  have:=ho.len
  omega
 | f+1=>fun w vs fv fl sl e he h ho hn hf=>by
  obtain ⟨h0,h1,h2⟩:=he
  obtain ⟨epc,esd⟩:=e
  simp only at h0 h1 h2
  obtain ⟨p,rfl⟩:∃ p:Nat,epc=(p:Int):=⟨epc.toNat,by omega⟩
  obtain ⟨s,rfl⟩:∃ s:Nat,esd=(s:Int):=⟨esd.toNat,by omega⟩
  exact from74_step ok p s w vs fv fl sl ht h li hl hll hli f (from74 ok ht li hl hll hli f) ho hn hf (by omega) (by omega)
end Go.Proofs.YtkhaehpobpkkiaaGreat
