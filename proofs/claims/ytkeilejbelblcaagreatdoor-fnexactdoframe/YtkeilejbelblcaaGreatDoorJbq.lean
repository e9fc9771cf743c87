import Derived.Test.YtkeilejbelblcaaGreatDoorJbn
import Derived.Test.YtkeilejbelblcaaGreatDoorIf
import Derived.Test.YtkeilejbelblcaaGreatDoorDh
import Derived.Test.YtkeilejbelblcaaGreatDoorK11
namespace Go.Proofs.YtkeilejbelblcaaGreatDoor
open Go.RowKit Go.Lib
theorem hdF_all (q wn:Nat->Bool):∀n,hdF q wn n=if anyB (fun k=>q k&&wn k) n=true then 5 else if 0<selN q n then 6 else 0
 |0=>by
  rw[if_neg (by rw[anyB_no fun i hi=>absurd hi (Nat.not_lt_zero _)];decide),if_neg (by rw[selN];omega)]
  rfl
 |n+1=>by
  have ih:=hdF_all q wn n
  have hup:anyB (fun k=>q k&&wn k) n=true->anyB (fun k=>q k&&wn k) (n+1)=true:=fun h=>by
   obtain⟨i,h1,h2⟩:=anyB_iff.1 h
   exact anyB_yes (by omega) h2
  have hdn:(q n&&wn n)=false->anyB (fun k=>q k&&wn k) n=false->anyB (fun k=>q k&&wn k) (n+1)=false:=fun h1 h2=>anyB_no fun i hi=>by
   by_cases c:i=n
   ·
    subst c
    exact h1
   ·
    cases d:(q i&&wn i) with
    |false=>rfl
    |true=>rw[anyB_yes (by omega:i<n) d] at h2;cases h2
  cases c:q n with
  |false=>
   rw[hdF_no c,ih,selN_no c]
   cases d:anyB (fun k=>q k&&wn k) n with
   |true=>rw[hup d]
   |false=>rw[hdn (by rw[c];rfl) d]
  |true=>
   rw[selN_yes c,if_pos (show 0<selN q n+1 by omega)]
   cases e:wn n with
   |true=>rw[hdF_yes c e,if_pos (anyB_yes (Nat.lt_succ_self n) (by rw[c,e];rfl))]
   |false=>
    cases d:anyB (fun k=>q k&&wn k) n with
    |true=>
     rw[hdF_same c e (by rw[ih,if_pos d];decide),ih,if_pos d,if_pos (hup d)]
    |false=>
     rw[if_neg (by rw[hdn (by rw[c,e];rfl) d];decide)]
     by_cases g:0<selN q n
     ·
      have h6:hdF q wn n=6:=by rw[ih,if_neg (by rw[d];decide),if_pos g]
      rw[hdF_same c e (by rw[h6];decide),h6]
     ·
      have h0:hdF q wn n=0:=by rw[ih,if_neg (by rw[d];decide),if_neg g]
      rw[hdF_six c e h0]
def codO:Option Nat->Nat
 |none=>0
 |some g=>g+1
theorem codO_is (o:Option Nat) (h:∀g,o=some g->g<6):CodeIs 6 (fun i=>#[0,1,2,3,4,5].getD i 0) o (codO o):=by
 cases o with
 |none=>exact Or.inl ⟨fun _ _ h=>(by cases h),rfl⟩
 |some g=>
  have hg:=h g rfl
  refine Or.inr ⟨g,hg,?_,fun m hm=>?_,rfl⟩
  ·
   match g,hg with
   |0,_=>rfl
   |1,_=>rfl
   |2,_=>rfl
   |3,_=>rfl
   |4,_=>rfl
   |5,_=>rfl
  ·
   have hi:∀k,k<6->#[0,1,2,3,4,5].getD k 0=k:=fun k hk=>by
    match k,hk with
    |0,_=>rfl
    |1,_=>rfl
    |2,_=>rfl
    |3,_=>rfl
    |4,_=>rfl
    |5,_=>rfl
   intro e
   have e:g=#[0,1,2,3,4,5].getD m 0:=Option.some.inj e
   rw[hi m (by omega)] at e
   omega
theorem fxO_code (q wn:Nat->Bool) (n:Nat):((codO (fxO q wn n):Nat):Int)=hdF q wn n:=by
 rw[hdF_all,fxO]
 by_cases c:anyB (fun k=>q k&&wn k) n=true
 ·
  rw[if_pos c,if_pos c]
  rfl
 ·
  rw[if_neg c,if_neg c]
  by_cases d:0<selN q n
  ·
   rw[if_pos d,if_pos d]
   rfl
  ·
   rw[if_neg d,if_neg d]
   rfl
theorem fxO_lt (q wn:Nat->Bool) (n g:Nat) (h:fxO q wn n=some g):g<6:=by
 unfold fxO at h
 split at h
 ·
  cases h;decide
 ·
  split at h
  ·
   cases h;decide
  ·
   cases h
theorem whyO_lt {p:Pl}{O:Nat->Bool}{P:Nat->Nat->Int}{S:Nat->WS}{x g:Nat}(h:whyO p O P S x=some g):g<6:=by
 unfold whyO at h
 split at h
 ·
  cases h;decide
 ·
  split at h
  ·
   cases h;decide
  ·
   split at h
   ·
    cases h;decide
   ·
    exact fxO_lt _ _ _ _ h
def whyF (p:Pl) (f:Fm) (x:Nat):Int:=if(f.Y x).st≠0 then 2 else cdE p f x
theorem hdF_congr {q r wn wm:Nat->Bool}:∀ {n:Nat},(∀k,k<n->q k=r k)->(∀k,wn k=wm k)->hdF q wn n=hdF r wm n
 |0,_,_=>rfl
 |n+1,h,h2=>by
  have ih:=hdF_congr (n:=n) (fun k hk=>h k (by omega)) h2
  simp only[hdF,h n (Nat.lt_succ_self n),h2 n,ih]
theorem why_same {p:Pl}{f:Fm}(h:frameB p f=true) {x:Nat}(hx:x<p.ny):((codO (whyO p f.O f.P (stS p f) x):Nat):Int)=whyF p f x:=by
 have hh:heldS (stS p f x)=decide ((f.Y x).st≠0):=held_st (frame_st h hx).2
 have h1:selN (fun k=>agS p (stS p f) x k) p.ny=selN (fun k=>agB p f x k) p.ny:=(sel_congr fun k hk=>ag_same h x hk).1
 have h2:p.sec.toNat=f.no:=by have :=(frame_in h).2.2.2.1;omega
 rw[whyO,whyF,hh,h1,h2]
 by_cases c:(f.Y x).st=0
 ·
  rw[if_neg (show¬(decide ((f.Y x).st≠0)=true) by simp[c]),if_neg (show¬((f.Y x).st≠0) by simp[c]),cdE]
  by_cases c1:0<selN (fun k=>agB p f x k) p.ny
  ·
   obtain⟨m,hm⟩:∃m,selN (fun k=>agB p f x k) p.ny=m+1:=⟨selN (fun k=>agB p f x k) p.ny-1,by omega⟩
   have h3:∀k,cd2 (cd1 (m+1)) k=3:=fun k=>by cases k<;>rfl
   rw[if_pos c1,hm,h3,if_neg (by decide)]
   rfl
  ·
   have hm:selN (fun k=>agB p f x k) p.ny=0:=by omega
   rw[if_neg c1,hm]
   by_cases c2:0<selN (scQ p f.O x) f.no
   ·
    obtain⟨m,hm⟩:∃m,selN (scQ p f.O x) f.no=m+1:=⟨selN (scQ p f.O x) f.no-1,by omega⟩
    have h3:cd2 (cd1 0) (m+1)=4:=rfl
    rw[if_pos c2,hm,h3,if_neg (by decide)]
    rfl
   ·
    have hm:selN (scQ p f.O x) f.no=0:=by omega
    have h3:cd2 (cd1 0) 0=0:=rfl
    rw[if_neg c2,hm,h3,if_pos rfl,fxO_code]
    exact hdF_congr (fun k _=>sw_same h hx k) fun k=>wn_same h k
 ·
  rw[if_pos (show decide ((f.Y x).st≠0)=true by simp[c]),if_pos (show(f.Y x).st≠0 from c)]
  rfl
set_option maxRecDepth 100000 in
set_option maxHeartbeats 4000000 in
theorem why59 (p:Pl) (f:Fm) (wa ya ba:Option Addr) (wc yc bc:Nat) (ob oo pb po:Nat) (ha:Option Addr) (oc pc hc:Nat) (x:Nat) (w:World) (hx:x<p.ny) (hs:p.small) (hfs:f.small) (hf0:frameB p f=true) (h:PlIn 0 w p wa ya ba) (hf:FmIn 0 w f (some (ad ob oo)) (some (ad pb po)) ha):
  Calls Tryz.prog 50 #[.agg #[.int .i64 p.sec,.slice wa p.nw wc,.slice ya p.ny yc,.slice ba p.nb bc,.int .i64 p.hold],.agg #[.bool f.ok,.slice (some (ad ob oo)) f.no oc,.slice (some (ad pb po)) f.np pc,.slice ha f.nh hc],.int .i64 (x:Int)] w fun e w'=>e=.returned (.int .i64 (whyF p f x))/\Below w.heap.size w w':=by
 have H:Hid (PlIn 0 w p wa ya ba/\FmIn 0 w f (some (ad ob oo)) (some (ad pb po)) ha/\p.small/\f.small/\frameB p f=true):=⟨h,hf,hs,hfs,hf0⟩
 have S0:Hid (Below w.heap.size w ((w.alloc (.cells (vPl p wa wc ya yc ba bc) 37)).alloc (.cells (vFr f (some (ad ob oo)) oc (some (ad pb po)) pc ha hc) 42))/\Box ((w.alloc (.cells (vPl p wa wc ya yc ba bc) 37)).alloc (.cells (vFr f (some (ad ob oo)) oc (some (ad pb po)) pc ha hc) 42)) w.heap.size 37 (vPl p wa wc ya yc ba bc)/\Box ((w.alloc (.cells (vPl p wa wc ya yc ba bc) 37)).alloc (.cells (vFr f (some (ad ob oo)) oc (some (ad pb po)) pc ha hc) 42)) (w.heap.size+1) 42 (vFr f (some (ad ob oo)) oc (some (ad pb po)) pc ha hc)):=⟨bel2 _ _ _,(Box.new _ _ _).alloc _,by have :=Box.new (w.alloc (.cells (vPl p wa wc ya yc ba bc) 37)) 42 (vFr f (some (ad ob oo)) oc (some (ad pb po)) pc ha hc);simpa using this⟩
 have hnh:f.nh=p.ny:=(frame_in hf0).2.1
 have hnhs:f.nh<=1048576:=hfs.2.2.1
 obtain⟨fb,fo,rfl,_,hfl,hcf⟩:=hf.h (by omega)
 obtain⟨_,_,y0,_⟩:=hcf x (by omega)
 have HY:Hid (fb<w.heap.size/\w.cell? (ad fb (fo+x*5))=some (.int .i64 (f.Y x).st)):=⟨hfl,y0⟩
 have hxn:(x:Int)<(f.nh:Int):=by omega
 have hx0:(0:Int)<=(x:Int):=by omega
 have HNH:Hid (f.nh=p.ny):=hnh
 clear h hf hs hfs hf0 hcf y0 hfl hnh
 obtain⟨R,HR⟩:∃R,Hid (whyF p f x=R):=⟨_,rfl⟩
 rw[HR.out]
 go_enter Tryz.func50,Tryz.ntmps50
 go_upto_region 1 with fail
 generalize ((w.alloc (.cells (vPl p wa wc ya yc ba bc) 37)).alloc (.cells (vFr f (some (ad ob oo)) oc (some (ad pb po)) pc (some (ad fb fo)) hc) 42))=V0 at S0⊢
 have z0:V0.cell? (ad fb (fo+x*5))=some (.int .i64 (f.Y x).st):=cell_keep S0.out.1 HY.out.1 HY.out.2
 have z1:=S0.out.2.2.cel 3
 by_cases c:(f.Y x).st=0
 ·
  have HT:Hid (R=cdE p f x):=HR.out.symm.trans (by rw[whyF,if_neg (by simp[c])])
  rw[c] at z0
  clear c
  obtain⟨a0,a1,a2,a3,a4⟩:=S0.out.2.1.c5
  obtain⟨b0,b1,b2,b3⟩:=S0.out.2.2.c4
  go_wp2_with fail
  clear a0 a1 a2 a3 a4 b0 b1 b2 b3 z0 z1
  have HF:=frame_in H.out.2.2.2.2
  refine(stays62 p f wa ya ba wc yc bc ob oo pb po (some (ad fb fo)) oc pc hc x V0 hx H.out.2.2.1 H.out.2.2.2.1 HF.1 HF.2.1 HF.2.2.1 HF.2.2.2.1 (HF.2.2.2.2 x hx) (frame_sw H.out.2.2.2.2) (H.out.1.mono nr S0.out.1 nr) (H.out.2.1.mono nr S0.out.1 nr)).mono ?_
  clear HF
  rintro e w1 ⟨a1,c1,a2,c2,a3,c3,rfl,_,_,_,hb⟩
  have HE:Hid (Below w.heap.size w w1):=S0.out.1.trans (hb.mono S0.out.1.size)
  clear hb
  rw[<-HT.out]
  go_wp2_with fail
  go_ret
  exact⟨rfl,HE.out.alloc HE.out.size _⟩
 ·
  have HT:Hid (R=2):=HR.out.symm.trans (by rw[whyF,if_pos c])
  go_wp2_with fail
  go_ret
  exact⟨by rw[HT.out];rfl,S0.out.1⟩
end Go.Proofs.YtkeilejbelblcaaGreatDoor
namespace Go.Proofs.YtkeilejbelblcaaGreatDoor
open Go.RowKit
def evF (p:Pl) (op o lie:Int):Bool:=
 if op=1\/op=2 then inB o 0 ((p.ny:Int)-1)&&decide (lie=0)
 else if op=3\/op=4 then inB o 0 (p.sec-1)&&decide (lie=0)
 else if op=5 then inB o 0 ((p.nw:Int)-1)&&inB lie 0 2
 else if op=6 then inB o 0 ((p.nw:Int)-1)&&inB lie 1 2
 else if op=7 then decide (o=0)&&decide (lie=0)
 else false
set_option maxHeartbeats 400000 in
theorem place67 (a:Option Addr) (n cap:Nat) (x:Int) (w:World) (hn:n<=1048576):
  Calls Tryz.prog 67 #[.slice a n cap,.int .i64 x] w fun e w'=>e=.returned (.bool (inB x 0 ((n:Int)-1)))/\w'=w:=by
 go_enter Tryz.func67,Tryz.ntmps67
 go_wp2_with fail
 refine(within30 x 0 ((n:Int)-1) _).mono ?_
 rintro e w1 ⟨rfl,hw⟩
 have hw:=hw.symm
 subst hw
 go_wp2_with fail
 go_ret
 exact⟨rfl,rfl⟩
set_option maxHeartbeats 4000000 in
theorem ev50 (p:Pl) (wa ya ba:Option Addr) (wc yc bc:Nat) (op o lie:Int) (w:World) (h1:1<=p.sec) (h2:p.sec<=60) (hw:p.nw<=40) (hy:p.ny<=100):
  Calls Tryz.prog 49 #[.agg #[.int .i64 p.sec,.slice wa p.nw wc,.slice ya p.ny yc,.slice ba p.nb bc,.int .i64 p.hold],.agg #[.int .i64 op,.int .i64 o,.int .i64 lie]] w fun e w'=>e=.returned (.bool (evF p op o lie))/\Below w.heap.size w w':=by
 by_cases e1:op=1
 ·
  subst e1
  go_enter Tryz.func49,Tryz.ntmps49
  go_wp2_with fail
  refine(in24 o 0 ((p.ny:Int)-1) _).mono ?_
  rintro e wx ⟨he,hwx⟩
  have hwx:=hwx.symm
  subst hwx
  cases f1:inB o 0 ((p.ny:Int)-1) with
  |false=>
   rw[f1] at he
   subst he
   go_wp2_with fail
   go_ret
   exact⟨by simp[evF,f1],bel2 _ _ _⟩
  |true=>
   rw[f1] at he
   subst he
   by_cases hl:lie=0
   ·
    subst hl
    go_wp2_with fail
    go_ret
    exact⟨by simp[evF,f1],bel2 _ _ _⟩
   ·
    go_wp2_with fail
    go_ret
    exact⟨by simp[evF,f1,hl],bel2 _ _ _⟩
 by_cases e2:op=2
 ·
  subst e2
  go_enter Tryz.func49,Tryz.ntmps49
  go_wp2_with fail
  refine(in24 o 0 ((p.ny:Int)-1) _).mono ?_
  rintro e wx ⟨he,hwx⟩
  have hwx:=hwx.symm
  subst hwx
  cases f1:inB o 0 ((p.ny:Int)-1) with
  |false=>
   rw[f1] at he
   subst he
   go_wp2_with fail
   go_ret
   exact⟨by simp[evF,f1],bel2 _ _ _⟩
  |true=>
   rw[f1] at he
   subst he
   by_cases hl:lie=0
   ·
    subst hl
    go_wp2_with fail
    go_ret
    exact⟨by simp[evF,f1],bel2 _ _ _⟩
   ·
    go_wp2_with fail
    go_ret
    exact⟨by simp[evF,f1,hl],bel2 _ _ _⟩
 by_cases e3:op=3
 ·
  subst e3
  go_enter Tryz.func49,Tryz.ntmps49
  go_wp2_with fail
  refine(in24 o 0 (p.sec-1) _).mono ?_
  rintro e wx ⟨he,hwx⟩
  have hwx:=hwx.symm
  subst hwx
  cases f1:inB o 0 (p.sec-1) with
  |false=>
   rw[f1] at he
   subst he
   go_wp2_with fail
   go_ret
   exact⟨by simp[evF,f1],bel2 _ _ _⟩
  |true=>
   rw[f1] at he
   subst he
   by_cases hl:lie=0
   ·
    subst hl
    go_wp2_with fail
    go_ret
    exact⟨by simp[evF,f1],bel2 _ _ _⟩
   ·
    go_wp2_with fail
    go_ret
    exact⟨by simp[evF,f1,hl],bel2 _ _ _⟩
 by_cases e4:op=4
 ·
  subst e4
  go_enter Tryz.func49,Tryz.ntmps49
  go_wp2_with fail
  refine(in24 o 0 (p.sec-1) _).mono ?_
  rintro e wx ⟨he,hwx⟩
  have hwx:=hwx.symm
  subst hwx
  cases f1:inB o 0 (p.sec-1) with
  |false=>
   rw[f1] at he
   subst he
   go_wp2_with fail
   go_ret
   exact⟨by simp[evF,f1],bel2 _ _ _⟩
  |true=>
   rw[f1] at he
   subst he
   by_cases hl:lie=0
   ·
    subst hl
    go_wp2_with fail
    go_ret
    exact⟨by simp[evF,f1],bel2 _ _ _⟩
   ·
    go_wp2_with fail
    go_ret
    exact⟨by simp[evF,f1,hl],bel2 _ _ _⟩
 by_cases e5:op=5
 ·
  subst e5
  go_enter Tryz.func49,Tryz.ntmps49
  go_wp2_with fail
  refine(in24 o 0 ((p.nw:Int)-1) _).mono ?_
  rintro e wx ⟨he,hwx⟩
  have hwx:=hwx.symm
  subst hwx
  cases f1:inB o 0 ((p.nw:Int)-1) with
  |false=>
   rw[f1] at he
   subst he
   go_wp2_with fail
   go_ret
   exact⟨by simp[evF,f1],bel2 _ _ _⟩
  |true=>
   rw[f1] at he
   subst he
   go_wp2_with fail
   refine(in24 lie 0 2 _).mono ?_
   rintro e wx ⟨he,hwx⟩
   have hwx:=hwx.symm
   subst hwx
   subst he
   go_wp2_with fail
   go_ret
   exact⟨by simp[evF,f1],bel2 _ _ _⟩
 by_cases e6:op=6
 ·
  subst e6
  go_enter Tryz.func49,Tryz.ntmps49
  go_wp2_with fail
  refine(in24 o 0 ((p.nw:Int)-1) _).mono ?_
  rintro e wx ⟨he,hwx⟩
  have hwx:=hwx.symm
  subst hwx
  cases f1:inB o 0 ((p.nw:Int)-1) with
  |false=>
   rw[f1] at he
   subst he
   go_wp2_with fail
   go_ret
   exact⟨by simp[evF,f1],bel2 _ _ _⟩
  |true=>
   rw[f1] at he
   subst he
   go_wp2_with fail
   refine(in24 lie 1 2 _).mono ?_
   rintro e wx ⟨he,hwx⟩
   have hwx:=hwx.symm
   subst hwx
   subst he
   go_wp2_with fail
   go_ret
   exact⟨by simp[evF,f1],bel2 _ _ _⟩
 by_cases e7:op=7
 ·
  subst e7
  by_cases ho:o=0
  ·
   subst ho
   by_cases hl:lie=0
   ·
    subst hl
    go_enter Tryz.func49,Tryz.ntmps49
    go_wp2_with fail
    go_ret
    exact⟨by simp[evF],bel2 _ _ _⟩
   ·
    go_enter Tryz.func49,Tryz.ntmps49
    go_wp2_with fail
    go_ret
    exact⟨by simp[evF,hl],bel2 _ _ _⟩
  ·
   go_enter Tryz.func49,Tryz.ntmps49
   go_wp2_with fail
   go_ret
   exact⟨by simp[evF,ho],bel2 _ _ _⟩
 go_enter Tryz.func49,Tryz.ntmps49
 go_wp2_with fail
 go_ret
 exact⟨by simp[evF,e1,e2,e3,e4,e5,e6,e7],bel2 _ _ _⟩
set_option maxHeartbeats 4000000 in
theorem ev51 (p:Pl) (wa ya ba:Option Addr) (wc yc bc:Nat) (op o lie:Int) (w:World) (h1:1<=p.sec) (h2:p.sec<=60) (hw:p.nw<=40) (hy:p.ny<=100):
  Calls Tryz.prog 55 #[.agg #[.int .i64 p.sec,.slice wa p.nw wc,.slice ya p.ny yc,.slice ba p.nb bc,.int .i64 p.hold],.agg #[.int .i64 op,.int .i64 o,.int .i64 lie]] w fun e w'=>e=.returned (.bool (evF p op o lie))/\Below w.heap.size w w':=by
 by_cases e1:op=1
 ·
  subst e1
  go_enter Tryz.func55,Tryz.ntmps55
  go_wp2_with fail
  refine(place67 ya p.ny yc o _ (by omega)).mono ?_
  rintro e wx ⟨he,hwx⟩
  have hwx:=hwx.symm
  subst hwx
  cases f1:inB o 0 ((p.ny:Int)-1) with
  |false=>
   rw[f1] at he
   subst he
   go_wp2_with fail
   go_ret
   exact⟨by simp[evF,f1],bel2 _ _ _⟩
  |true=>
   rw[f1] at he
   subst he
   by_cases hl:lie=0
   ·
    subst hl
    go_wp2_with fail
    go_ret
    exact⟨by simp[evF,f1],bel2 _ _ _⟩
   ·
    go_wp2_with fail
    go_ret
    exact⟨by simp[evF,f1,hl],bel2 _ _ _⟩
 by_cases e2:op=2
 ·
  subst e2
  go_enter Tryz.func55,Tryz.ntmps55
  go_wp2_with fail
  refine(place67 ya p.ny yc o _ (by omega)).mono ?_
  rintro e wx ⟨he,hwx⟩
  have hwx:=hwx.symm
  subst hwx
  cases f1:inB o 0 ((p.ny:Int)-1) with
  |false=>
   rw[f1] at he
   subst he
   go_wp2_with fail
   go_ret
   exact⟨by simp[evF,f1],bel2 _ _ _⟩
  |true=>
   rw[f1] at he
   subst he
   by_cases hl:lie=0
   ·
    subst hl
    go_wp2_with fail
    go_ret
    exact⟨by simp[evF,f1],bel2 _ _ _⟩
   ·
    go_wp2_with fail
    go_ret
    exact⟨by simp[evF,f1,hl],bel2 _ _ _⟩
 by_cases e3:op=3
 ·
  subst e3
  go_enter Tryz.func55,Tryz.ntmps55
  go_wp2_with fail
  refine(within30 o 0 (p.sec-1) _).mono ?_
  rintro e wx ⟨he,hwx⟩
  have hwx:=hwx.symm
  subst hwx
  cases f1:inB o 0 (p.sec-1) with
  |false=>
   rw[f1] at he
   subst he
   go_wp2_with fail
   go_ret
   exact⟨by simp[evF,f1],bel2 _ _ _⟩
  |true=>
   rw[f1] at he
   subst he
   by_cases hl:lie=0
   ·
    subst hl
    go_wp2_with fail
    go_ret
    exact⟨by simp[evF,f1],bel2 _ _ _⟩
   ·
    go_wp2_with fail
    go_ret
    exact⟨by simp[evF,f1,hl],bel2 _ _ _⟩
 by_cases e4:op=4
 ·
  subst e4
  go_enter Tryz.func55,Tryz.ntmps55
  go_wp2_with fail
  refine(within30 o 0 (p.sec-1) _).mono ?_
  rintro e wx ⟨he,hwx⟩
  have hwx:=hwx.symm
  subst hwx
  cases f1:inB o 0 (p.sec-1) with
  |false=>
   rw[f1] at he
   subst he
   go_wp2_with fail
   go_ret
   exact⟨by simp[evF,f1],bel2 _ _ _⟩
  |true=>
   rw[f1] at he
   subst he
   by_cases hl:lie=0
   ·
    subst hl
    go_wp2_with fail
    go_ret
    exact⟨by simp[evF,f1],bel2 _ _ _⟩
   ·
    go_wp2_with fail
    go_ret
    exact⟨by simp[evF,f1,hl],bel2 _ _ _⟩
 by_cases e5:op=5
 ·
  subst e5
  go_enter Tryz.func55,Tryz.ntmps55
  go_wp2_with fail
  refine(place68 wa p.nw wc o _ (by omega)).mono ?_
  rintro e wx ⟨he,hwx⟩
  have hwx:=hwx.symm
  subst hwx
  cases f1:inB o 0 ((p.nw:Int)-1) with
  |false=>
   rw[f1] at he
   subst he
   go_wp2_with fail
   go_ret
   exact⟨by simp[evF,f1],bel2 _ _ _⟩
  |true=>
   rw[f1] at he
   subst he
   go_wp2_with fail
   refine(within30 lie 0 2 _).mono ?_
   rintro e wx ⟨he,hwx⟩
   have hwx:=hwx.symm
   subst hwx
   subst he
   go_wp2_with fail
   go_ret
   exact⟨by simp[evF,f1],bel2 _ _ _⟩
 by_cases e6:op=6
 ·
  subst e6
  go_enter Tryz.func55,Tryz.ntmps55
  go_wp2_with fail
  refine(place68 wa p.nw wc o _ (by omega)).mono ?_
  rintro e wx ⟨he,hwx⟩
  have hwx:=hwx.symm
  subst hwx
  cases f1:inB o 0 ((p.nw:Int)-1) with
  |false=>
   rw[f1] at he
   subst he
   go_wp2_with fail
   go_ret
   exact⟨by simp[evF,f1],bel2 _ _ _⟩
  |true=>
   rw[f1] at he
   subst he
   go_wp2_with fail
   refine(within30 lie 1 2 _).mono ?_
   rintro e wx ⟨he,hwx⟩
   have hwx:=hwx.symm
   subst hwx
   subst he
   go_wp2_with fail
   go_ret
   exact⟨by simp[evF,f1],bel2 _ _ _⟩
 by_cases e7:op=7
 ·
  subst e7
  by_cases ho:o=0
  ·
   subst ho
   by_cases hl:lie=0
   ·
    subst hl
    go_enter Tryz.func55,Tryz.ntmps55
    go_wp2_with fail
    go_ret
    exact⟨by simp[evF],bel2 _ _ _⟩
   ·
    go_enter Tryz.func55,Tryz.ntmps55
    go_wp2_with fail
    go_ret
    exact⟨by simp[evF,hl],bel2 _ _ _⟩
  ·
   go_enter Tryz.func55,Tryz.ntmps55
   go_wp2_with fail
   go_ret
   exact⟨by simp[evF,ho],bel2 _ _ _⟩
 go_enter Tryz.func55,Tryz.ntmps55
 go_wp2_with fail
 go_ret
 exact⟨by simp[evF,e1,e2,e3,e4,e5,e6,e7],bel2 _ _ _⟩
end Go.Proofs.YtkeilejbelblcaaGreatDoor
namespace Go.Proofs.YtkeilejbelblcaaGreatDoor
open Go.RowKit Go.Lib
set_option maxHeartbeats 1600000 in
theorem ers_else {n:Nat}{A:Nat->Addr}(op:Int) (w:World) (h:Sn w n A) (hn:1<=n) (h1:(op==1)=false) (h2:(op==2)=false) (h6:(op==6)=false):
  Calls Tryz.prog 91 #[.int .i64 op] w fun e w'=>ErsR w A 1 (fun i=>#[0].getD i 0) e w':=by
 have c0:w.cell? (ad 0 0)=some (.iface 251 (.pointer (some (A 0)))):=h.1 0 (by omega)
 clear h
 go_enter Tryz.func91,Tryz.ntmps91
 go_wp2_with fail
 go_ret
 refine⟨w.heap.size,_,rfl,Box.new _ _ _,fun i hi=>?_,bel1 _ _⟩
 match i,hi with
 |0,_=>rfl
def evC (op:Int) (o:Option Nat):Nat:=if op=1 then codO o else if op=2 then(if o=some 0 then 1 else if o=some 6 then 2 else 0) else if op=6 then(if o=some 0 then 1 else if o=some 4 then 2 else if o=some 5 then 3 else 0) else if o=some 0 then 1 else 0
theorem code56 {A:Nat->Addr}(o:Option Nat) (op:Int) (w:World) (hS:Sn w 7 A) (ho:∀g,o=some g->g<7/\(op=1->g<6)):
  Calls Tryz.prog 56 #[erV A o,.int .i64 op] w fun e w'=>e=.returned (.int .i64 ((evC op o:Nat):Int))/\Below w.heap.size w w':=by
 by_cases h1:op=1
 ·
  subst h1
  exact codeOf61 6 _ o (codO o) 1 w hS (by omega) (fun i hi=>by
   match i,hi with
   |0,_=>decide
   |1,_=>decide
   |2,_=>decide
   |3,_=>decide
   |4,_=>decide
   |5,_=>decide) (fun g e=>(ho g e).1) (codO_is o fun g e=>(ho g e).2 rfl) (ers_ask w hS (by omega))
 by_cases h2:op=2
 ·
  subst h2
  refine codeOf61 2 _ o (evC 2 o) 2 w hS (by omega) (fun i hi=>by
   match i,hi with
   |0,_=>decide
   |1,_=>decide) (fun g e=>(ho g e).1) ?_ (ers_back w hS (by omega))
  simp only[evC,h1,if_false,if_true]
  by_cases c0:o=some 0
  ·
   exact .inr ⟨0,by omega,c0,fun m hm=>absurd hm (Nat.not_lt_zero _),by rw[if_pos c0]⟩
  by_cases c1:o=some 6
  ·
   exact .inr ⟨1,by omega,c1,fun m hm=>by match m,hm with |0,_=>exact c0,by rw[if_neg c0,if_pos c1]⟩
  ·
   exact .inl ⟨fun i hi=>by match i,hi with |0,_=>exact c0|1,_=>exact c1,by rw[if_neg c0,if_neg c1]⟩
 by_cases h6:op=6
 ·
  subst h6
  refine codeOf61 3 _ o (evC 6 o) 6 w hS (by omega) (fun i hi=>by
   match i,hi with
   |0,_=>decide
   |1,_=>decide
   |2,_=>decide) (fun g e=>(ho g e).1) ?_ (ers_move w hS (by omega))
  simp only[evC,h1,h2,if_false,if_true]
  by_cases c0:o=some 0
  ·
   exact .inr ⟨0,by omega,c0,fun m hm=>absurd hm (Nat.not_lt_zero _),by rw[if_pos c0]⟩
  by_cases c1:o=some 4
  ·
   exact .inr ⟨1,by omega,c1,fun m hm=>by match m,hm with |0,_=>exact c0,by rw[if_neg c0,if_pos c1]⟩
  by_cases c2:o=some 5
  ·
   exact .inr ⟨2,by omega,c2,fun m hm=>by match m,hm with |0,_=>exact c0|1,_=>exact c1,by rw[if_neg c0,if_neg c1,if_pos c2]⟩
  ·
   exact .inl ⟨fun i hi=>by match i,hi with |0,_=>exact c0|1,_=>exact c1|2,_=>exact c2,by rw[if_neg c0,if_neg c1,if_neg c2]⟩
 ·
  refine codeOf61 1 _ o (evC op o) op w hS (by omega) (fun i hi=>by
   match i,hi with
   |0,_=>decide) (fun g e=>(ho g e).1) ?_ (ers_else op w hS (by omega) (by simpa using h1) (by simpa using h2) (by simpa using h6))
  simp only[evC,h1,h2,h6,if_false]
  by_cases c0:o=some 0
  ·
   exact .inr ⟨0,by omega,c0,fun m hm=>absurd hm (Nat.not_lt_zero _),by rw[if_pos c0]⟩
  ·
   exact .inl ⟨fun i hi=>by match i,hi with |0,_=>exact c0,by rw[if_neg c0]⟩
theorem do93 (p:Pl) (wb yb bb no np:Nat) (O:Nat->Bool) (P:Nat->Nat->Int) (S:Nat->WS) (lo rr:Nat->Nat) (op o lie:Int) (A:Nat->Addr) (ob oc pb pc:Nat) (ia:Option Addr) (ic:Nat) (w:World) (hev:evF p op o lie=true) (hS:∀i,i<p.ny->∀t,S i=.taking t->1<=t/\t<=1000) (hG:DoH w p wb yb bb no np lo rr A) (hD:DeskQ w p no np O P S ob oc pb pc ia ic):
  Calls Tryz.prog 93 #[.agg #[.int .i64 p.sec,.slice (some (ad wb 0)) p.nw p.nw,.slice (some (ad yb 0)) p.ny p.ny,.slice (some (ad bb 0)) p.nb p.nb,.int .i64 p.hold,.slice (some (ad ob 0)) no oc,.slice (some (ad pb 0)) np pc,.slice ia p.ny ic],.agg #[.int .i64 op,.int .i64 o,.int .i64 lie]] w fun e w'=>DR2 p wb yb bb no np (doD p O P S op o.toNat lie).O (doD p O P S op o.toNat lie).P (doD p O P S op o.toNat lie).S A (doD p O P S op o.toNat lie).e w e w':=by
 unfold evF at hev
 by_cases h1:op=1
 ·
  subst h1
  rw[if_pos (.inl rfl),Bool.and_eq_true,decide_eq_true_eq] at hev
  obtain⟨x,rfl,hx⟩:=inB_nat hev.1
  obtain rfl:=hev.2
  rw[Int.toNat_natCast]
  exact do93_1 p wb yb bb no np O P S lo rr x A ob oc pb pc ia ic w hx hG hD
 by_cases h2:op=2
 ·
  subst h2
  rw[if_pos (.inr rfl),Bool.and_eq_true,decide_eq_true_eq] at hev
  obtain⟨x,rfl,hx⟩:=inB_nat hev.1
  obtain rfl:=hev.2
  rw[Int.toNat_natCast]
  exact do93_2 p wb yb bb no np O P S lo rr x A ob oc pb pc ia ic w hx hG hD
 rw[if_neg (by omega)] at hev
 by_cases h3:op=3
 ·
  subst h3
  rw[if_pos (.inl rfl),Bool.and_eq_true,decide_eq_true_eq,←hG.sec] at hev
  obtain⟨x,rfl,hx⟩:=inB_nat hev.1
  obtain rfl:=hev.2
  rw[Int.toNat_natCast]
  exact do93_3 p wb yb bb no np O P S lo rr x A ob oc pb pc ia ic w hx hG hD
 by_cases h4:op=4
 ·
  subst h4
  rw[if_pos (.inr rfl),Bool.and_eq_true,decide_eq_true_eq,←hG.sec] at hev
  obtain⟨x,rfl,hx⟩:=inB_nat hev.1
  obtain rfl:=hev.2
  rw[Int.toNat_natCast]
  exact do93_4 p wb yb bb no np O P S lo rr x A ob oc pb pc ia ic w hx hG hD
 rw[if_neg (by omega)] at hev
 by_cases h5:op=5
 ·
  subst h5
  rw[if_pos rfl,Bool.and_eq_true,←hG.npw] at hev
  obtain⟨x,rfl,hx⟩:=inB_nat hev.1
  rw[Int.toNat_natCast]
  exact do93_5 p wb yb bb no np O P S lo rr x lie A ob oc pb pc ia ic w hx hG hD
 rw[if_neg h5] at hev
 by_cases h6:op=6
 ·
  subst h6
  rw[if_pos rfl,Bool.and_eq_true,←hG.npw] at hev
  obtain⟨x,rfl,hx⟩:=inB_nat hev.1
  rw[Int.toNat_natCast]
  exact do93_6 p wb yb bb no np O P S lo rr x lie A ob oc pb pc ia ic w hx hG hD
 rw[if_neg h6] at hev
 by_cases h7:op=7
 ·
  subst h7
  rw[if_pos rfl,Bool.and_eq_true,decide_eq_true_eq,decide_eq_true_eq] at hev
  obtain⟨rfl,rfl⟩:=hev
  exact do93_7 p wb yb bb no np O P S lo rr A ob oc pb pc ia ic w hS hG hD
 ·
  rw[if_neg h7] at hev
  cases hev
theorem do_used {p:Pl}{O:Nat->Bool}{P:Nat->Nat->Int}{S:Nat->WS}{op lie:Int}{x:Nat}(k:Nat) {g:Nat}{B:Nat->Bool}{sh:Bool}(h:(doD p O P S op x lie).S k=.used g B sh):S k=.used g B sh:=by
 unfold doD at h
 split at h
 ·
  unfold asS at h
  split at h
  ·
   by_cases c:k=x
   ·
    subst c
    simp only[updN_same] at h
    cases h
   ·
    simpa only[updN_ne c] using h
  ·
   exact h
 split at h
 ·
  by_cases c:k=x
  ·
   subst c
   simp only[updN_same] at h
   cases hs:S k with
   |set s2=>rw[hs] at h;simp only[bkT] at h;split at h<;>cases h
   |clear=>rw[hs] at h;simp only[bkT] at h;split at h<;>cases h
   |idle=>rw[hs] at h;cases h
   |taking t=>rw[hs] at h;cases h
   |used g2 B2 s2=>rw[hs] at h;exact h
  ·
   simpa only[updN_ne c] using h
 split at h
 ·
  exact h
 split at h
 ·
  exact h
 split at h
 ·
  exact h
 split at h
 ·
  unfold mvD at h
  split at h<;>exact h
 ·
  cases hs:S k with
  |taking t=>simp only[hs,tickS,tickW] at h;split at h<;>cases h
  |set s2=>simp only[hs,tickS] at h;cases h
  |clear=>simp only[hs,tickS] at h;cases h
  |idle=>simp only[hs,tickS] at h;cases h
  |used g2 B2 s2=>simpa only[hs,tickS] using h
theorem do_err {p:Pl}{O:Nat->Bool}{P:Nat->Nat->Int}{S:Nat->WS}{op lie:Int}{x g:Nat}(h:(doD p O P S op x lie).e=some g):g<7/\(op=1->g<6):=by
 unfold doD at h
 split at h
 ·
  have :=whyO_lt h
  omega
 split at h
 ·
  cases hs:S x<;>rw[hs] at h<;>simp[bkO] at h<;>omega
 split at h
 ·
  cases h
 split at h
 ·
  cases h
 split at h
 ·
  cases h
 split at h
 ·
  unfold mvD at h
  split at h
  ·
   next e=>
   unfold fxE at e
   simp only[Option.some.injEq] at h
   split at e
   ·
    simp only[Option.some.injEq] at e;omega
   ·
    split at e
    ·
     simp only[Option.some.injEq] at e;omega
    ·
     cases e
  ·
   cases h
 ·
  cases h
def DR3 (p:Pl) (wb yb bb no np:Nat) (O:Nat->Bool) (P:Nat->Nat->Int) (S:Nat->WS) (c:Int) (w:World) (e:Ending) (w':World):Prop:=
 ∃(ob oc pb pc:Nat) (ia:Option Addr) (ic:Nat),e=.returned (.tuple #[.agg #[.int .i64 p.sec,.slice (some (ad wb 0)) p.nw p.nw,.slice (some (ad yb 0)) p.ny p.ny,.slice (some (ad bb 0)) p.nb p.nb,.int .i64 p.hold,.slice (some (ad ob 0)) no oc,.slice (some (ad pb 0)) np pc,.slice ia p.ny ic],.int .i64 c])/\DeskQ w' p no np O P S ob oc pb pc ia ic/\Below w.heap.size w w'
set_option maxRecDepth 100000 in
set_option maxHeartbeats 16000000 in
theorem done57 (p:Pl) (wb yb bb no np:Nat) (O:Nat->Bool) (P:Nat->Nat->Int) (S:Nat->WS) (lo rr:Nat->Nat) (op o lie:Int) (A:Nat->Addr) (ob oc pb pc:Nat) (ia:Option Addr) (ic:Nat) (w:World) (d:Dsk) (hd:d=doD p O P S op o.toNat lie) (hev:evF p op o lie=true) (hS:∀i,i<p.ny->∀t,S i=.taking t->1<=t/\t<=1000) (hU:∀k,k<p.ny->1<=(p.Y k).ns/\∀g B sh,S k=.used g B sh->g<=(p.Y k).ns) (hG:DoH w p wb yb bb no np lo rr A) (hD:DeskQ w p no np O P S ob oc pb pc ia ic):
  Calls Tryz.prog 57 #[.agg #[.int .i64 p.sec,.slice (some (ad wb 0)) p.nw p.nw,.slice (some (ad yb 0)) p.ny p.ny,.slice (some (ad bb 0)) p.nb p.nb,.int .i64 p.hold,.slice (some (ad ob 0)) no oc,.slice (some (ad pb 0)) np pc,.slice ia p.ny ic],.agg #[.int .i64 op,.int .i64 o,.int .i64 lie]] w fun e w'=>DR3 p wb yb bb no np d.O d.P (fun i=>WS.settle ⟨(p.Y i).ns,fun k=>d.O ((p.Y i).S k).toNat,prvB (p.Y i) d.O d.P⟩ (d.S i)) ((evC op d.e:Nat):Int) w e w':=by
 have H:Hid (DeskQ w p no np O P S ob oc pb pc ia ic):=hD
 have HG:Hid (DoH w p wb yb bb no np lo rr A):=hG
 have HV:Hid (evF p op o lie=true/\∀i,i<p.ny->∀t,S i=.taking t->1<=t/\t<=1000):=⟨hev,hS⟩
 have HU:Hid (∀k,k<p.ny->(p.Y k).In no np/\1<=(p.Y k).ns/\∀g B sh,d.S k=.used g B sh->g<=(p.Y k).ns):=fun k hk=>⟨hG.way k hk,(hU k hk).1,fun g B sh e=>(hU k hk).2 g B sh (do_used k (by rw[hd] at e;exact e))⟩
 have HE:Hid (∀g,d.e=some g->g<7/\(op=1->g<6)):=fun g e=>do_err (by rw[hd] at e;exact e)
 have HD:Hid (d=doD p O P S op o.toNat lie):=hd
 obtain⟨V0,hV,S0⟩:=st3 w 84 (vDk p wb yb bb (some (ad ob 0)) no oc (some (ad pb 0)) np pc ia ic) 52 (vEv op o lie) 84 z8v
 clear hG hD hev hS hU hd
 go_enter Tryz.func57,Tryz.ntmps57
 go_upto_region 1 with fail
 clear hV
 obtain⟨m0,m1,m2,m3,m4,m5,m6,m7⟩:=(gB S0.out.2.2.1).c8
 obtain⟨n0,n1,n2⟩:=(gB S0.out.2.1).c3
 go_wp2_with fail
 clear m0 m1 m2 m3 m4 m5 m6 m7 n0 n1 n2
 refine(do93 p wb yb bb no np O P S lo rr op o lie A ob oc pb pc ia ic V0 HV.out.1 HV.out.2 (HG.out.mono (gL S0.out.2.2.2.1) nr) (H.out.mono (gL S0.out.2.2.2.1) nr)).mono ?_
 rw[←HD.out]
 rintro e w1 ⟨ob2,oc2,pb2,pc2,ia2,ic2,rfl,hD,hb⟩
 have M1:=stx (k:=kDq p no np (d.O) (d.P) (d.S) ob2 oc2 pb2 pc2 ia2 ic2) (stm S0 hb) (hD)
 clear hb hD S0
 have M5:=stx (k:=kBx (w1.heap.size) 84 (vDk p wb yb bb (some (ad ob2 0)) no oc2 (some (ad pb2 0)) np pc2 ia2 ic2)) (sta M1 (.cells (vDk p wb yb bb (some (ad ob2 0)) no oc2 (some (ad pb2 0)) np pc2 ia2 ic2) 84)) (Box.new _ _ _)
 have HL51:Hid (w.heap.size<=w1.heap.size):=(gL M1.out.2.2.2.2.1).size
 have HE52:Hid (w.heap.size≠w1.heap.size):=by have h9:=(gB M1.out.2.2.2.1).lt;show _≠_;omega
 have HE53:Hid (w.heap.size+1+1≠w1.heap.size):=by have h9:=(gB M1.out.2.1).lt;show _≠_;omega
 go_upto_region 2 with fail
 clear M1
 generalize w1.alloc (.cells (vDk p wb yb bb (some (ad ob2 0)) no oc2 (some (ad pb2 0)) np pc2 ia2 ic2) 84)=V5 at M5⊢
 generalize w1.heap.size=tq at M5 HL51 HE52 HE53⊢
 refine wp_region_held_drew (S:=(fun wx:World=>wx.cell? (ad (w.heap.size+1) 0)=some (.int .i64 op)/\wx.cell? (ad tq 0)=some (.int .i64 p.sec)/\wx.cell? (ad tq 1)=some (.slice (some (ad wb 0)) p.nw p.nw)/\wx.cell? (ad tq 2)=some (.slice (some (ad yb 0)) p.ny p.ny)/\wx.cell? (ad tq 3)=some (.slice (some (ad bb 0)) p.nb p.nb)/\wx.cell? (ad tq 4)=some (.int .i64 p.hold)/\wx.cell? (ad tq 5)=some (.slice (some (ad ob2 0)) no oc2)/\wx.cell? (ad tq 6)=some (.slice (some (ad pb2 0)) np pc2)/\wx.cell? (ad tq 7)=some (.slice ia2 p.ny ic2))) (by kernel_rfl) ⟨(gB M5.out.2.2.2.1).cell 0,(gB M5.out.1).cell 0,(gB M5.out.1).cell 1,(gB M5.out.1).cell 2,(gB M5.out.1).cell 3,(gB M5.out.1).cell 4,(gB M5.out.1).cell 5,(gB M5.out.1).cell 6,(gB M5.out.1).cell 7⟩ (fun hHeld=>?_)
 have MD54:=std M5
 clear M5
 generalize V5.drew=VD2 at MD54 hHeld⊢
 refine tk 0 ?_
 refine tk 2 ?_
 refine tk 3 ?_
 refine tk 4 ?_
 refine rl 1 fun K hK=>?_
 go_simp
 obtain⟨⟨M1o,ho1⟩,⟨M2o,ho2⟩,M3o,v3,hw1⟩:=(gD MD54.out.2.1)
 refine(settle58 p wb yb bb lo rr (some (ad ob2 0)) no oc2 (some (ad pb2 0)) np pc2 ia2 ic2 d.O d.P d.S v3 M3o _ HG.out.sm (HG.out.mono (gL MD54.out.2.2.2.2.2.1) nr).pl (ho1.vs.le (Nat.zero_le _)) (ho2.vs.le (Nat.zero_le _)) HU.out HG.out.nol HG.out.npl hw1).mono ?_
 clear ho1 ho2 hw1
 rintro e w5 ⟨ua,uc,vv,rfl,hwl,hb⟩
 have M6:Hid (Sts [kBx (tq) 84 (vDk p wb yb bb (some (ad ob2 0)) no oc2 (some (ad pb2 0)) np pc2 ia2 ic2),kDq p no np (d.O) (d.P) ((fun i=>WS.settle ⟨(p.Y i).ns,fun k=>d.O ((p.Y i).S k).toNat,prvB (p.Y i) d.O d.P⟩ (d.S i))) ob2 oc2 pb2 pc2 ua uc,kBx (w.heap.size+1+1) 84 z8v,kBx (w.heap.size+1) 52 (vEv op o lie),kBx (w.heap.size) 84 (vDk p wb yb bb (some (ad ob 0)) no oc (some (ad pb 0)) np pc ia ic),kBn w.heap.size w] w5):=⟨(gB MD54.out.1).mono hb nr,⟨((gD MD54.out.2.1).mono hb nr).1,((gD MD54.out.2.1).mono hb nr).2.1,_,_,hwl⟩,(gB MD54.out.2.2.1).mono hb nr,(gB MD54.out.2.2.2.1).mono hb nr,(gB MD54.out.2.2.2.2.1).mono hb nr,⟨(gL MD54.out.2.2.2.2.2.1).trans (hb.mono (gL MD54.out.2.2.2.2.2.1).size),rfl⟩,trivial⟩
 clear hb hwl MD54
 go_wp2_with fail
 refine hK.out _ _ ⟨(gB M6.out.2.2.2.1).cell 0,(gB M6.out.1).cell 0,(gB M6.out.1).cell 1,(gB M6.out.1).cell 2,(gB M6.out.1).cell 3,(gB M6.out.1).cell 4,(gB M6.out.1).cell 5,(gB M6.out.1).cell 6,(gB M6.out.1).cell 7⟩ (fun hHeld=>?_)
 clear hK K
 refine rl 5 fun K hK=>?_
 go_simp
 refine(code56 d.e op _ (HG.out.mono (gL M6.out.2.2.2.2.2.1) nr).sn HE.out).mono ?_
 rintro e w6 ⟨rfl,hb⟩
 have M7:=stm M6 hb
 clear hb M6
 go_wp2_with fail
 refine hK.out _ _ ⟨(gB M7.out.2.2.2.1).cell 0,(gB M7.out.1).cell 0,(gB M7.out.1).cell 1,(gB M7.out.1).cell 2,(gB M7.out.1).cell 3,(gB M7.out.1).cell 4,(gB M7.out.1).cell 5,(gB M7.out.1).cell 6,(gB M7.out.1).cell 7⟩ (fun hHeld=>?_)
 clear hK K
 refine rl 6 fun K hK=>?_
 refine step_row rfl 84 _ _ rfl (w.heap.size+1+1) #[.int .i64 p.sec,.slice (some (ad wb 0)) p.nw p.nw,.slice (some (ad yb 0)) p.ny p.ny,.slice (some (ad bb 0)) p.nb p.nb,.int .i64 p.hold,.slice (some (ad ob2 0)) no oc2,.slice (some (ad pb2 0)) np pc2,.slice ua p.ny uc] rfl rfl 84 _ (gB M7.out.2.2.1) (by kernel_rfl) rfl (by kernel_rfl) ?_
 intro W9 hB9 hF9
 have MA55:Hid (Sts [kBx (tq) 84 (vDk p wb yb bb (some (ad ob2 0)) no oc2 (some (ad pb2 0)) np pc2 ia2 ic2),kDq p no np (d.O) (d.P) ((fun i=>WS.settle ⟨(p.Y i).ns,fun k=>d.O ((p.Y i).S k).toNat,prvB (p.Y i) d.O d.P⟩ (d.S i))) ob2 oc2 pb2 pc2 ua uc,kBx (w.heap.size+1+1) 84 (vDk p wb yb bb (some (ad ob2 0)) no oc2 (some (ad pb2 0)) np pc2 ua uc),kBx (w.heap.size+1) 52 (vEv op o lie),kBx (w.heap.size) 84 (vDk p wb yb bb (some (ad ob 0)) no oc (some (ad pb 0)) np pc ia ic),kBn w.heap.size w] W9):=⟨(gB M7.out.1).fr hF9 HE53.out.symm,(gD M7.out.2.1).fr (gB M7.out.2.2.1) hF9,hB9,bxf (gB M7.out.2.2.2.1) (gB M7.out.2.2.1) hF9,(gB M7.out.2.2.2.2.1).fr hF9 (by omega),⟨blf M7.out.2.2.2.2.2.1 (Nat.le_add_right _ 2) hF9,rfl⟩,trivial⟩
 clear hB9 hF9 M7
 simp only[Act.put]
 refine hK.out _ _ ⟨(gB MA55.out.2.2.2.1).cell 0,(gB MA55.out.1).cell 0,(gB MA55.out.1).cell 1,(gB MA55.out.1).cell 2,(gB MA55.out.1).cell 3,(gB MA55.out.1).cell 4,(gB MA55.out.1).cell 5,(gB MA55.out.1).cell 6,(gB MA55.out.1).cell 7⟩ (fun hHeld=>?_)
 clear hK K
 refine tk 7 ?_
 refine wpAnyH_done (by kernel_rfl) ?_ _
 clear hHeld
 obtain⟨z0,z1,z2,z3,z4,z5,z6,z7⟩:=(gB MA55.out.2.2.1).c8
 go_wp2_with fail
 exact bodyPost_ret (v:=.tuple #[.agg #[.int .i64 p.sec,.slice (some (ad wb 0)) p.nw p.nw,.slice (some (ad yb 0)) p.ny p.ny,.slice (some (ad bb 0)) p.nb p.nb,.int .i64 p.hold,.slice (some (ad ob2 0)) no oc2,.slice (some (ad pb2 0)) np pc2,.slice ua p.ny uc],.int .i64 ((evC op d.e:Nat):Int)]) (by simp[results,Tryz.results57,go_sem,z0,z1,z2,z3,z4,z5,z6,z7]) rfl ⟨ob2,oc2,pb2,pc2,ua,uc,rfl,(gD MA55.out.2.1),(gL MA55.out.2.2.2.2.2.1)⟩
end Go.Proofs.YtkeilejbelblcaaGreatDoor
