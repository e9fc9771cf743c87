import Derived.Test.YtkeilejbelblcaaGreatDoorGMoSm
import Derived.Test.YtkeilejbelblcaaGreatDoorGSaH5
import Derived.Laws.Bits64b
import Derived.Laws.BitsLemmas
import Derived.ChangeKeysEq
import Derived.Lib.AppendZerosOnto
import Derived.Lib.AppendZeros
import Derived.Lib.SliceRun
namespace Go.Proofs.YtkeilejbelblcaaGreatDoor
open Go.RowKit
theorem and_63 (n:Int):bits .and .i64 n 63=n%64:=by
 have h127:(BitVec.ofInt 64 63).toNat=2 ^ 6-1:=by decide
 have key:(BitVec.ofInt 64 n&&& BitVec.ofInt 64 63).toNat=(n%((2 ^ 64:Nat):Int)).toNat%2 ^ 6:=by
  rw[BitVec.toNat_and,BitVec.toNat_ofInt,h127,Nat.and_two_pow_sub_one_eq_mod]
 show IntKind.i64.wrap ((BitVec.ofInt 64 n&&& BitVec.ofInt 64 63).toNat:Nat)=n%64
 rw[key,IntKind.wrap_i64]
 omega
theorem and_1 (n:Int):bits .and .i64 n 1=n%2:=by
 have h127:(BitVec.ofInt 64 1).toNat=2 ^ 1-1:=by decide
 have key:(BitVec.ofInt 64 n&&& BitVec.ofInt 64 1).toNat=(n%((2 ^ 64:Nat):Int)).toNat%2 ^ 1:=by
  rw[BitVec.toNat_and,BitVec.toNat_ofInt,h127,Nat.and_two_pow_sub_one_eq_mod]
 show IntKind.i64.wrap ((BitVec.ofInt 64 n&&& BitVec.ofInt 64 1).toNat:Nat)=n%2
 rw[key,IntKind.wrap_i64]
 omega
def bt (x:Int):Nat:=2 ^ (x%64).toNat
theorem bt_lt (x:Int):bt x<18446744073709551616:=by
 have h:(x%64).toNat<64:=by omega
 have :=Nat.pow_lt_pow_right (a:=2) (by decide) h
 simpa [bt] using this
def mA (a:Nat) (x:Int):Nat:=if x / 64%2=0 then a|||bt x else a
def mB (b:Nat) (x:Int):Nat:=if x / 64%2=0 then b else b|||bt x
def mt (a b:Nat) (x:Int):Bool:=if x / 64%2=0 then a.testBit (x%64).toNat else b.testBit (x%64).toNat
theorem or_pow {a q:Nat}:a|||2 ^ q=a↔a.testBit q=true:=by
 constructor
 ·
  intro h
  rw[<-h]
  simp
 ·
  intro h
  refine Nat.eq_of_testBit_eq fun i=>?_
  rw[Nat.testBit_or,Nat.testBit_two_pow]
  by_cases e:q=i
  ·
   subst e;simp[h]
  ·
   simp[e]
theorem mt_new (a b:Nat) (x:Int):mt (mA a x) (mB b x) x=true:=by
 unfold mt mA mB
 by_cases h:x / 64%2=0<;>simp[h,bt]
theorem mt_and (a b c d:Nat) (x:Int):mt (a&&& c) (b&&& d) x=(mt a b x&&mt c d x):=by
 unfold mt
 by_cases h:x / 64%2=0<;>simp[h]
theorem mt_zero (x:Int):mt 0 0 x=false:=by
 unfold mt
 simp
theorem mt_iff (a b:Nat) (x:Int):(mA a x=a/\mB b x=b)↔mt a b x=true:=by
 unfold mt mA mB
 by_cases h:x / 64%2=0
 ·
  simp[h,bt,or_pow]
 ·
  simp[h,bt,or_pow]
theorem mA_lt {a:Nat}(h:a<18446744073709551616) (x:Int):mA a x<18446744073709551616:=by
 unfold mA
 split
 ·
  exact Nat.or_lt_two_pow (n:=64) h (bt_lt x)
 ·
  exact h
theorem mB_lt {b:Nat}(h:b<18446744073709551616) (x:Int):mB b x<18446744073709551616:=by
 unfold mB
 split
 ·
  exact h
 ·
  exact Nat.or_lt_two_pow (n:=64) h (bt_lt x)
theorem part0 (x y:Value) (w:World):(part 190 #[x,y] (0*Tryz.prog.cellsOf 190)).run Tryz.prog w=.ok x w:=by kernel_rfl
theorem part1 (x y:Value) (w:World):(part 190 #[x,y] (1*Tryz.prog.cellsOf 190)).run Tryz.prog w=.ok y w:=by kernel_rfl
theorem info95s:(Tryz.prog.info? 190).isSome=true:=by kernel_rfl
theorem eq97 (a b c d:Int) (w:World):(Op.equalIn 10000 192 (.agg #[.int .u64 a,.int .u64 b]) (.agg #[.int .u64 c,.int .u64 d])).run Tryz.prog w=.ok (a==c&&b==d) w:=by
 obtain⟨i,hi⟩:=Option.isSome_iff_exists.1 info95s
 have h:=run_equalIn_array w 9999 #[.int .u64 a,.int .u64 b] #[.int .u64 c,.int .u64 d] Tryz.underlying192 hi
 rw[show List.range 2= [0,1] from rfl] at h
 have e0:=fun w=>run_equalIn_int (P:=Tryz.prog) w 9998 190 .u64 .u64 a c Tryz.underlying190
 have e1:=fun w=>run_equalIn_int (P:=Tryz.prog) w 9998 190 .u64 .u64 b d Tryz.underlying190
 refine h.trans ?_
 simp only[Op.eqItems,Sem.run_bind,part0,Result.andThen_ok]
 rw[e0]
 simp only[Result.andThen_ok]
 cases h1:(a==c)
 ·
  simp
 ·
  simp only[Bool.not_true,Bool.false_eq_true,if_false,Sem.run_bind,part1,Result.andThen_ok]
  rw[e1]
  cases h2:(b==d)<;>simp
theorem wrap_bt (x:Int):IntKind.u64.wrap (2 ^ (x%64).toNat)=((bt x:Nat):Int):=by
 have hb:=bt_lt x
 have hcast:((2:Int) ^ (x%64).toNat)=((bt x:Nat):Int):=by unfold bt;simp
 rw[hcast,IntKind.wrap_u64]
 omega
set_option maxHeartbeats 2000000 in
theorem with71 (a b:Nat) (x:Int) (w:World) (ha:a<18446744073709551616) (hb:b<18446744073709551616):
  Calls Tryz.prog 141 #[.agg #[.int .u64 a,.int .u64 b],.int .i64 x] w fun e w'=>e=.returned (.agg #[.int .u64 ((mA a x:Nat):Int),.int .u64 ((mB b x:Nat):Int)])/\Below w.heap.size w w':=by
 have h63:=and_63 x
 have hm0:(0:Int)<=x%64:=by omega
 have hlt:=bt_lt x
 by_cases hp:x / 64%2=0
 ·
  have h1:bits .and .i64 (x / 64) 1=0:=by rw[and_1];exact hp
  have HA:Hid (mA a x=a|||bt x):=by show _=_;simp[mA,hp]
  have HB:Hid (mB b x=b):=by show _=_;simp[mB,hp]
  have HW:=wrap_bt x
  have hor:bits .or .u64 (a:Int) ((bt x:Nat):Int)=((a|||bt x:Nat):Int):=bits_or_u64_nat a (bt x) ha hlt
  have HV:Hid (bits .or .u64 (a:Int) (IntKind.u64.wrap (2 ^ (x%64).toNat))=((mA a x:Nat):Int)):=by
   show _=_
   rw[HW,hor,HA.out]
  clear hp HW hor
  go_enter Tryz.func141,Tryz.ntmps141
  go_wp2_with fail
  go_region
  all_goals
   go_wp2_with fail
   rw[HV.out,HB.out]
   exact bodyPost_ret (v:=.agg #[.int .u64 ((mA a x:Nat):Int),.int .u64 (b:Int)]) (by simp[results,Tryz.results141,go_sem]) rfl ⟨rfl,(bel2 _ _ _).drew⟩
 ·
  have h1:bits .and .i64 (x / 64) 1=1:=by rw[and_1];omega
  have HA:Hid (mA a x=a):=by show _=_;simp[mA,hp]
  have HB:Hid (mB b x=b|||bt x):=by show _=_;simp[mB,hp]
  have HW:=wrap_bt x
  have hor:bits .or .u64 (b:Int) ((bt x:Nat):Int)=((b|||bt x:Nat):Int):=bits_or_u64_nat b (bt x) hb hlt
  have HV:Hid (bits .or .u64 (b:Int) (IntKind.u64.wrap (2 ^ (x%64).toNat))=((mB b x:Nat):Int)):=by
   show _=_
   rw[HW,hor,HB.out]
  clear hp HW hor
  go_enter Tryz.func141,Tryz.ntmps141
  go_wp2_with fail
  go_region
  all_goals
   go_wp2_with fail
   rw[HV.out,HA.out]
   exact bodyPost_ret (v:=.agg #[.int .u64 (a:Int),.int .u64 ((mB b x:Nat):Int)]) (by simp[results,Tryz.results141,go_sem]) rfl ⟨rfl,(bel2 _ _ _).drew⟩
set_option maxHeartbeats 2000000 in
theorem has61 (a b:Nat) (x:Int) (w:World) (ha:a<18446744073709551616) (hb:b<18446744073709551616):
  Calls Tryz.prog 129 #[.agg #[.int .u64 a,.int .u64 b],.int .i64 x] w fun e w'=>e=.returned (.bool (mt a b x))/\Below w.heap.size w w':=by
 have HQ:Hid ((((mA a x:Nat):Int)==(a:Int)&&((mB b x:Nat):Int)==(b:Int))=mt a b x):=by
  show _=_
  rw[Bool.eq_iff_iff]
  simp only[Bool.and_eq_true,beq_iff_eq,Int.natCast_inj]
  exact mt_iff a b x
 have heq:=eq97 ((mA a x:Nat):Int) ((mB b x:Nat):Int) (a:Int) (b:Int)
 go_enter Tryz.func129,Tryz.ntmps129
 go_wp2_with fail
 have b0:=bel1 w (.cells #[.int .u64 (a:Int),.int .u64 (b:Int)] 192)
 go_region_with(go_at_call 141;refine(with71 a b x _ ha hb).mono ?_;rintro e w1 ⟨rfl,hb1⟩;have c0:w1.cell? (ad w.heap.size 0)=some (.int .u64 (a:Int)):=(hb1.cell (p:=(ad w.heap.size 0)) (by simp)).trans (by simp);have c1:w1.cell? (ad w.heap.size 1)=some (.int .u64 (b:Int)):=(hb1.cell (p:=(ad w.heap.size 1)) (by simp)).trans (by simp))
 all_goals
  go_wp2_with fail
  rw[HQ.out]
  go_ret
  exact⟨rfl,b0.drew.trans (hb1.mono b0.drew.size)⟩
set_option maxHeartbeats 2000000 in
theorem and59 (a b c d:Nat) (w:World) (ha:a<18446744073709551616) (hb:b<18446744073709551616) (hc:c<18446744073709551616) (hd:d<18446744073709551616):
  Calls Tryz.prog 127 #[.agg #[.int .u64 a,.int .u64 b],.agg #[.int .u64 c,.int .u64 d]] w fun e w'=>e=.returned (.agg #[.int .u64 ((a&&& c:Nat):Int),.int .u64 ((b&&& d:Nat):Int)])/\Below w.heap.size w w':=by
 have h1:=bits_and_u64_nat a c ha hc
 have h2:=bits_and_u64_nat b d hb hd
 go_enter Tryz.func127,Tryz.ntmps127
 go_wp2_with fail
 refine wp_loop_rounds 3 ?_
 rw[rounds_succ]
 go_wp2_with fail
 go_region
 all_goals
  go_wp2_with fail
  rw[rounds_succ]
  go_wp2_with fail
  go_region
  all_goals
   go_wp2_with fail
   rw[rounds_succ]
   go_wp2_with fail
   exact bodyPost_ret (v:=.agg #[.int .u64 ((a&&& c:Nat):Int),.int .u64 ((b&&& d:Nat):Int)]) (by simp[results,Tryz.results127,go_sem]) rfl ⟨rfl,(bel3 _ _ _ _).drew.drew⟩
def mkA (S:Nat->Int):Nat->Nat
 |0=>0
 |n+1=>mA (mkA S n) (S n)
def mkB (S:Nat->Int):Nat->Nat
 |0=>0
 |n+1=>mB (mkB S n) (S n)
theorem mkA_lt (S:Nat->Int):∀n,mkA S n<18446744073709551616
 |0=>by simp[mkA]
 |n+1=>mA_lt (mkA_lt S n) _
theorem mkB_lt (S:Nat->Int):∀n,mkB S n<18446744073709551616
 |0=>by simp[mkB]
 |n+1=>mB_lt (mkB_lt S n) _
theorem mt_other {a b:Nat}{x y:Int}(hx0:0<=x) (hx:x<64) (hy0:0<=y) (hy:y<64) (h:x≠y):mt (mA a x) (mB b x) y=mt a b y:=by
 have e1:x / 64%2=0:=by omega
 have e2:y / 64%2=0:=by omega
 have e3:x%64=x:=by omega
 have e4:y%64=y:=by omega
 simp only[mt,mA,e1,e2,if_true,bt,e3,e4,Nat.testBit_or,Nat.testBit_two_pow]
 have :¬x.toNat=y.toNat:=by omega
 simp[this]
theorem mk_has {S:Nat->Int}{x:Int}(hx0:0<=x) (hx:x<64):∀ {n:Nat},(∀i,i<n->0<=S i/\S i<64)->mt (mkA S n) (mkB S n) x=anyB (fun i=>decide (S i=x)) n
 |0,_=>by rw[mkA,mkB,mt_zero];rfl
 |n+1,h=>by
  have ih:=mk_has hx0 hx (n:=n) fun i hi=>h i (by omega)
  obtain⟨h0,h1⟩:=h n (by omega)
  by_cases e:S n=x
  ·
   rw[anyB_yes (k:=n) (by omega) (by simp[e]),mkA,mkB,<-e]
   exact mt_new _ _ _
  ·
   rw[mkA,mkB,mt_other h0 h1 hx0 hx e,ih]
   simp[anyB,allB,e]
theorem el_low {S:Nat->Int}{m:Int}{i:Nat}(h:elF S m i=true) (hm:m<=60):0<=S i/\S i<64:=by
 simp only[elF,inB,Bool.and_eq_true,decide_eq_true_eq] at h
 omega
theorem elF_of {S:Nat->Int}{m:Int}{q:Nat}(hm:m<=60) (hq:∀i,i<q->elF S m i=true) (hb:inB (S q) 0 (m-1)=true):elF S m q=!mt (mkA S q) (mkB S q) (S q):=by
 have hr:0<=S q/\S q<=m-1:=by simpa [inB] using hb
 rw[mk_has hr.1 (by omega) fun i hi=>el_low (hq i hi) hm,anyB,elF,hb,Bool.true_and,Bool.not_not]
 exact allB_congr fun i _=>by simp
def secA (S:Nat->Int) (n:Nat) (m:Int):Nat:=if listF S n m then mkA S n else 0
def secB (S:Nat->Int) (n:Nat) (m:Int):Nat:=if listF S n m then mkB S n else 0
set_option maxRecDepth 100000 in
set_option maxHeartbeats 4000000 in
theorem sec58 (p:Pl) (wa ya ba:Option Addr) (wc yc bc:Nat) (a:Option Addr) (n cap:Nat) (S:Nat->Int) (w:World) (hn:n<=1048576) (h1:1<=p.sec) (h2:p.sec<=60) (hS:VsAt 1 0 w a n (oneF S)):
  Calls Tryz.prog 126 #[.agg #[.int .i64 p.sec,.slice wa p.nw wc,.slice ya p.ny yc,.slice ba p.nb bc,.int .i64 p.hold],.slice a n cap] w fun e w'=>e=.returned (.tuple #[.agg #[.int .u64 ((secA S n p.sec:Nat):Int),.int .u64 ((secB S n p.sec:Nat):Int)],.bool (listF S n p.sec)])/\Below w.heap.size w w':=by
 have HS:Hid (VsAt 1 0 w a n (oneF S)):=hS
 clear hS
 go_enter Tryz.func126,Tryz.ntmps126
 by_cases h30:(30:Int)<(n:Int)
 ·
  have d30:decide ((30:Int)<(n:Int))=true:=by simpa using h30
  have hl:listF S n p.sec=false:=by simp[listF];omega
  go_wp2_with fail
  refine bodyPost_ret (v:=.tuple #[.agg #[.int .u64 0,.int .u64 0],.bool false]) (by simp[results,Tryz.results126,go_sem]) rfl ⟨by simp[secA,secB,hl],bel2 _ _ _⟩
 have d30:decide ((30:Int)<(n:Int))=false:=by simpa using h30
 go_wp2_with fail
 go_loopw [14] (fun i wr=>∃q:Nat,q<=n/\i=.int .i64 q/\Hid (∀i,i<q->elF S p.sec i=true)/\Hid (Below w.heap.size w wr/\Box wr w.heap.size 37 (vPl p wa wc ya yc ba bc)/\Box wr (w.heap.size+1) 192 #[.int .u64 ((mkA S q:Nat):Int),.int .u64 ((mkB S q:Nat):Int)])) (fun i _=>n-(intOf i).toNat)
 case atStart=>exact⟨0,Nat.zero_le _,rfl,fun i hi=>absurd hi (Nat.not_lt_zero _),bel2 _ _ _,(Box.new w 37 _).alloc _,by have :=Box.new (w.alloc (.cells (vPl p wa wc ya yc ba bc) 37)) 192 #[.int .u64 0,.int .u64 0];simpa [mkA,mkB] using this⟩
 case round=>
  obtain⟨q,hq,rfl,HQ,HB⟩:=hrel
  have z1:w.heap.size<wr.heap.size:=HB.out.2.1.lt
  have z2:w.heap.size+1<wr.heap.size:=HB.out.2.2.lt
  obtain⟨m0,m1⟩:=HB.out.2.2.c2
  obtain⟨g0,g1⟩:=HB.out.2.2.f2
  by_cases hlt:q<n
  ·
   obtain⟨b,off,rfl,_,hb,hc⟩:=(HS.out.mono nr HB.out.1 nr) (by omega)
   have c0:wr.cell? (ad b (off+q))=some (.int .i64 (S q)):=by have :=hc q hlt 0 (by omega);rwa [Nat.mul_one] at this
   have x0:=HB.out.2.1.cel 0
   clear hc hb
   have hq0:(0:Int)<=(q:Int):=by omega
   have hqn:(q:Int)<(n:Int):=by omega
   go_wp2_with fail
   refine(within30 (S q) 0 (p.sec-1) _).mono ?_
   rintro e wx ⟨he,hwx⟩
   have hwx:=hwx.symm
   subst hwx
   have hle:w.heap.size<=w.heap.size+1:=by omega
   cases f1:inB (S q) 0 (p.sec-1) with
   |false=>
    rw[f1] at he
    subst he
    have hl:listF S n p.sec=false:=by rw[listF,allB_no hlt (by simp[elF,f1])];rfl
    go_wp2_with fail
    refine bodyPost_ret (v:=.tuple #[.agg #[.int .u64 0,.int .u64 0],.bool false]) (by simp[results,Tryz.results126,go_sem,m0,m1]) rfl ⟨by simp[secA,secB,hl],(HB.out.1.setCell hle _).setCell hle _⟩
   |true=>
    rw[f1] at he
    subst he
    have hel:=elF_of h2 HQ.out f1
    go_wp2_with fail
    refine(has61 (mkA S q) (mkB S q) (S q) _ (mkA_lt _ _) (mkB_lt _ _)).mono ?_
    rintro e w1 ⟨he,hb1⟩
    have HB1:Hid (Below w.heap.size w w1/\Box w1 w.heap.size 37 _/\Box w1 (w.heap.size+1) 192 #[.int .u64 ((mkA S q:Nat):Int),.int .u64 ((mkB S q:Nat):Int)]):=⟨HB.out.1.trans (hb1.mono HB.out.1.size),HB.out.2.1.mono hb1 nr,HB.out.2.2.mono hb1 nr⟩
    clear m0 m1 g0 g1 c0 x0 z1 z2 hb1 HB
    obtain⟨m0,m1⟩:=HB1.out.2.2.c2
    obtain⟨g0,g1⟩:=HB1.out.2.2.f2
    cases f2:mt (mkA S q) (mkB S q) (S q) with
    |true=>
     rw[f2] at he hel
     subst he
     have hl:listF S n p.sec=false:=by rw[listF,allB_no hlt hel];rfl
     go_wp2_with fail
     refine bodyPost_ret (v:=.tuple #[.agg #[.int .u64 0,.int .u64 0],.bool false]) (by simp[results,Tryz.results126,go_sem,m0,m1]) rfl ⟨by simp[secA,secB,hl],(HB1.out.1.setCell hle _).setCell hle _⟩
    |false=>
     rw[f2] at he hel
     subst he
     have HQ2:Hid (∀i,i<q+1->elF S p.sec i=true):=fun i hi=>by
      by_cases e:i=q
      ·
       subst e
       exact hel
      ·
       exact HQ.out i (by omega)
     clear hel
     go_wp2_with fail
     refine(with71 (mkA S q) (mkB S q) (S q) _ (mkA_lt _ _) (mkB_lt _ _)).mono ?_
     rintro e w2 ⟨rfl,hb2⟩
     have HB2:Hid (Below w.heap.size w w2/\Box w2 w.heap.size 37 _/\Box w2 (w.heap.size+1) 192 #[.int .u64 ((mkA S q:Nat):Int),.int .u64 ((mkB S q:Nat):Int)]):=⟨HB1.out.1.trans (hb2.mono HB1.out.1.size),HB1.out.2.1.mono hb2 nr,HB1.out.2.2.mono hb2 nr⟩
     clear m0 m1 g0 g1 HB1 hb2
     obtain⟨m0,m1⟩:=HB2.out.2.2.c2
     obtain⟨g0,g1⟩:=HB2.out.2.2.f2
     have HB3:Hid (Below w.heap.size w ((w2.setCell (ad (w.heap.size+1) 0) (.int .u64 ((mA (mkA S q) (S q):Nat):Int))).setCell (ad (w.heap.size+1) 1) (.int .u64 ((mB (mkB S q) (S q):Nat):Int)))/\Box ((w2.setCell (ad (w.heap.size+1) 0) (.int .u64 ((mA (mkA S q) (S q):Nat):Int))).setCell (ad (w.heap.size+1) 1) (.int .u64 ((mB (mkB S q) (S q):Nat):Int))) w.heap.size 37 _/\Box ((w2.setCell (ad (w.heap.size+1) 0) (.int .u64 ((mA (mkA S q) (S q):Nat):Int))).setCell (ad (w.heap.size+1) 1) (.int .u64 ((mB (mkB S q) (S q):Nat):Int))) (w.heap.size+1) 192 #[.int .u64 ((mkA S (q+1):Nat):Int),.int .u64 ((mkB S (q+1):Nat):Int)]):=
      ⟨(HB2.out.1.setCell hle _).setCell hle _,(HB2.out.2.1.other (p:=(ad (w.heap.size+1) 0)) (by show w.heap.size≠w.heap.size+1;omega) _).other (p:=(ad (w.heap.size+1) 1)) (by show w.heap.size≠w.heap.size+1;omega) _,by have :=(HB2.out.2.2.set 0 (.int .u64 ((mA (mkA S q) (S q):Nat):Int))).set 1 (.int .u64 ((mB (mkB S q) (S q):Nat):Int));simpa [mkA,mkB] using this⟩
     go_wp2_with fail
     go_roundw
     case rel=>exact⟨q+1,by omega,by go_num,HQ2,HB3⟩
     case measure=>simp[intOf];omega
  ·
   obtain rfl:q=n:=by omega
   have hl:listF S q p.sec=true:=by rw[listF,allB_iff.2 HQ.out];simp;omega
   have hle:w.heap.size<=w.heap.size+1:=by omega
   go_wp2_with fail
   refine bodyPost_ret (v:=.tuple #[.agg #[.int .u64 ((mkA S q:Nat):Int),.int .u64 ((mkB S q:Nat):Int)],.bool true]) (by simp[results,Tryz.results126,go_sem,m0,m1]) rfl ⟨by simp[secA,secB,hl],(HB.out.1.setCell hle _).setCell hle _⟩
end Go.Proofs.YtkeilejbelblcaaGreatDoor
namespace Go.Proofs.YtkeilejbelblcaaGreatDoor
open Go.RowKit Go.Lib
theorem VsAt.news {c:Nat}{w:World}{b off n:Nat}{F:Nat->Nat->Value}(h:VsAt c 0 w (some (ad b off)) n F):∀j u,(vcells c n F)[j]?=some u->w.cell? (((ad b off):Addr).add j)=some u:=by
 intro j u hj
 have hl:j<n*c:=by
  have :=(List.getElem?_eq_some_iff.1 hj).1
  rwa [vcells_len] at this
 obtain⟨k1,k2,k3⟩:=vcells_spot hl
 obtain⟨b',off',e1,_,_,hc⟩:=h (Nat.lt_of_le_of_lt (Nat.zero_le _) k1)
 simp only[Option.some.injEq,Addr.mk.injEq] at e1
 obtain⟨rfl,rfl,_⟩:=e1
 have h1:=hc _ k1 _ k2
 rw[<-k3,vcells_at k1 k2] at hj
 rw[show off+j / c*c+j%c=off+j by omega] at h1
 have hadd:((ad b off):Addr).add j=(ad b (off+j)):=by unfold Addr.add;split<;>simp_all
 rw[hadd,h1]
 exact hj
def cat (n:Nat) (F G:Nat->Nat->Int) (i j:Nat):Int:=if i<n then F i j else G (i-n) j
theorem vcells_cat (c n m:Nat) (F G:Nat->Nat->Int):vcells c (n+m) (intF (cat n F G))=vcells c n (intF F)++vcells c m (intF G):=by
 induction m with
 |zero=>
  simp only[Nat.add_zero]
  rw[show vcells c 0 (intF G)= [] from rfl,List.append_nil]
  exact vcells_congr fun i hi j _=>by simp[cat,hi]
 |succ m ih=>
  rw[<-Nat.add_assoc,vcells_succ,ih,vcells_succ,List.append_assoc]
  congr 2
  apply List.map_congr_left
  intro j _
  simp[cat]
  intro h
  omega
theorem mem_int {c n:Nat}{F:Nat->Nat->Int}:∀u,u ∈ vcells c n (intF F)->u.oneCell'=true:=by
 intro u hu
 obtain⟨k,hk,rfl⟩:=List.getElem_of_mem hu
 have hk':k<n*c:=by rwa [vcells_len] at hk
 obtain⟨k1,k2,k3⟩:=vcells_spot hk'
 have :=vcells_at (F:=intF F) k1 k2
 rw[k3,List.getElem?_eq_getElem hk] at this
 simp only[Option.some.injEq] at this
 rw[this]
 rfl
theorem wpList_vcat {P:Program}(w:World) {ops:Array Oper}{rest:List Oper}{o:Oper}{a:Act}{Q:Exit->Act->World->Prop}(hgd:o.guard=none) (s x:Operand) (t:TypeId)
  (ho:o.op=.call {callee:=.builtin .append,args:=#[s,x],argTypes:=#[t,t]})
  (B:Nat) (e:TypeId) (i:TypeInfo) (z:Value) (c bytes:Nat) (ht:P.underlying t=some (.slice e)) (hi:P.info? e=some i) (hz:i.zero=some z)
  (hsize:i.size=c) (hby:i.bytes=bytes) (hzs:z.cells.size=c) (hsz:0<c)
  (v:Value) (n:Nat) (F:Nat->Nat->Int) (hs:a.eval s=v) (hown:VOwn B e c w v n (intF F))
  (b off m cap:Nat) (G:Nat->Nat->Int) (hx:a.eval x=.slice (some (ad b off)) m cap) (hE:VsAt c 0 w (some (ad b off)) m (intF G))
  (h63:n+m<=maxLen) (hbytes:(n+m)*bytes<=140737488355328) (hbase:B<=w.heap.size)
  (h:Halt (∀v' w',VOwn B e c w' v' (n+m) (intF (cat n F G))->w.grownBy w' v.ownBlock->wpList P ops Q rest (a.put o.dst v') w')):wpList P ops Q (o::rest) a w:=by
 refine wpList_append_own w hgd s x t ho B e i z c bytes ht hi hz hsize hby hzs hsz v n (vcells c n (intF F)) hs hown.row (ad b off) m cap (vcells c m (intF G)) hx (vcells_len _ _ _) hE.news mem_int h63 hbytes hbase ?_
 intro v' w' ho' hg' _
 rw[<-vcells_cat] at ho'
 exact h v' w' (VOwn.of_row ho') hg'
set_option maxHeartbeats 2000000 in
set_option maxRecDepth 100000 in
theorem grow77 (n:Nat) (F:Nat->Nat->Value) (w:World) (hn:n<=2097152):
  Calls Tryz.prog 139 #[.slice none 0 0,.int .i64 n] w fun e w'=>∃v,e=.returned v/\VOwn w.heap.size 146 2 w' v 0 F/\Below w.heap.size w w':=by
 obtain⟨i0,hi0,hz0,hs0,hb0⟩:=info_parts infoTurn
 have h1:¬((n:Int)<0):=by omega
 by_cases h0:n=0
 ·
  subst h0
  go_enter Tryz.func139,Tryz.ntmps139
  go_wp2
  go_ret
  exact⟨_,rfl,VOwn.nil _ _ _ _ _,Below.refl _ _⟩
 ·
  have h4:(0:Int)<(n:Int):=by omega
  have hold:(Builtin.firstCells i0.size 0 (.slice none 0 0)).run Tryz.prog w.drew=.ok ([]:List Value).toArray w.drew:=run_firstCells_none w.drew i0.size 0 0 0
  have hrz:∀ty,(Builtin.append_ #[110,3] ty #[.slice none 0 0,.int .i64 (n:Int)]).run Tryz.prog w=
    .ok (.slice (some (ad w.heap.size 0)) (0+n) (grownCap w (0+n) 0 146)) (w.drew.alloc (.cells (([]:List Value).toArray++Builtin.zeroCells (Value.agg #[.int .i64 0,.int .i64 0]).cells n++Builtin.zeroCells (Value.agg #[.int .i64 0,.int .i64 0]).cells (grownCap w (0+n) 0 146-(0+n))) 146)):=fun ty=>
   run_append_grow_zeros w 110 3 ty 146 i0 _ .i64 .i64 Tryz.underlying110 Tryz.underlying3 hi0 hz0 none 0 0 [] hold n (by omega) (by omega) (by omega) (by omega) (by rw[hb0];omega) (by rw[hb0];have :=growslice_fits (need:=0+n) (old:=0) (bytes:=16) (by omega) (by omega);exact this)
  obtain⟨G,hG⟩:∃G,G=grownCap w (0+n) 0 146:=⟨_,rfl⟩
  have hGn:0+n<=G:=by rw[hG];exact grownCap_ge w _ _ _
  have hGm:G<=maxLen:=by rw[hG];exact grownCap_le_maxLen w (0+n) 0 146 (by unfold maxLen;omega)
  have hG63:G<=9223372036854775807:=by unfold maxLen at hGm;omega
  rw[<-hG] at hrz
  have HO:Hid ((w.alloc (.cells (Builtin.zeroCells #[.int .i64 0,.int .i64 0] n++Builtin.zeroCells #[.int .i64 0,.int .i64 0] (G-n)) 146)).drew.ownsRow w.heap.size 146 2 (.slice (some (ad w.heap.size 0)) 0 G) 0 []):=World.ownsRow_made w _ G nr hGm (by
   simp only[Array.size_append,size_zeroCells]
   show n*2+(G-n)*2=G*2
   omega)
  have HB:Hid (Below w.heap.size w (w.alloc (.cells (Builtin.zeroCells #[.int .i64 0,.int .i64 0] n++Builtin.zeroCells #[.int .i64 0,.int .i64 0] (G-n)) 146)).drew):=(bel1 _ _).drew
  clear hold hG
  go_enter Tryz.func139,Tryz.ntmps139
  go_wp2_with(at_builtin;refine wpList_append_run _ rfl _ _ _ _ rfl _ _ rfl rfl _ _ (hrz _) ?_)
  all_goals
   go_ret
   exact⟨_,rfl,VOwn.of_row HO.out,HB.out⟩
set_option maxHeartbeats 4000000 in
set_option maxRecDepth 100000 in
theorem concat75 (q lb lo nl lc fb fo nf fc:Nat) (L F:Nat->Nat->Int) (w:World) (hl:nl<=1048576) (hf:nf<=1048576) (hq:Box w q 110 #[.slice (some (ad lb lo)) nl lc,.slice (some (ad fb fo)) nf fc]) (hL:VsAt 2 0 w (some (ad lb lo)) nl (intF L)) (hF:VsAt 2 0 w (some (ad fb fo)) nf (intF F)):
  Calls Tryz.prog 121 #[.slice (some (ad q 0)) 2 2] w fun e w'=>∃v,e=.returned v/\VOwn w.heap.size 146 2 w' v (nl+nf) (intF (cat nl L F))/\Below w.heap.size w w':=by
 obtain⟨i0,hi0,hz0,hs0,hb0⟩:=info_parts infoTurn
 obtain⟨c0,c1⟩:=hq.c2
 have H:Hid (Box w q 110 #[.slice (some (ad lb lo)) nl lc,.slice (some (ad fb fo)) nf fc]/\VsAt 2 0 w (some (ad lb lo)) nl (intF L)/\VsAt 2 0 w (some (ad fb fo)) nf (intF F)):=⟨hq,hL,hF⟩
 clear hq hL hF
 have n1:¬(nl:Int)<0:=by omega
 have n2:¬(nl:Int)+(nf:Int)<0:=by omega
 go_enter Tryz.func121,Tryz.ntmps121
 go_wp2_with fail
 refine wp_loop_rounds 3 ?_
 rw[rounds_succ]
 go_wp2_with fail
 rw[rounds_succ]
 go_wp2_with fail
 rw[rounds_succ]
 go_wp2_with fail
 have hsum:(nl:Int)+(nf:Int)=((nl+nf:Nat):Int):=by omega
 rw[hsum]
 refine(grow77 (nl+nf) (intF (fun _ _=>0)) _ (by omega)).mono ?_
 rintro e w1 ⟨v,rfl,ho,hb1⟩
 have HO:Hid (VOwn w.heap.size 146 2 w1 v 0 (intF (fun _ _=>0))/\Below w.heap.size w w1):=⟨ho,hb1⟩
 obtain⟨c0,c1⟩:=(H.out.1.mono hb1 nr).c2
 clear ho hb1 hsum n1 n2
 go_wp2_with fail
 refine wp_loop_rounds 3 ?_
 rw[rounds_succ]
 go_wp2_with(at_builtin;go_must (refine wpList_vcat _ rfl _ _ 110 rfl w.heap.size 146 i0 _ 2 16 Tryz.underlying110 hi0 hz0 hs0 hb0 rfl (by decide) v 0 (fun _ _=>0) rfl HO.out.1 lb lo nl lc L rfl (H.out.2.1.mono nr HO.out.2 nr) (by simp only[maxLen];omega) (by omega) HO.out.2.size (Halt.mk ?_)))
 intro v2 w2 o2 g2
 have o2:VOwn w.heap.size 146 2 w2 v2 nl (intF L):=(by simpa using o2:VOwn w.heap.size 146 2 w2 v2 nl (intF (cat 0 (fun _ _=>0) L))).congr fun i _ j _=>by simp[cat]
 have X1:=H.out.1.mono HO.out.2 nr
 have X2:=X1.grown g2 (fun e=>HO.out.1.off X1 (by decide) e rfl)
 have B2:Below w.heap.size w w2:=HO.out.2.grown g2 HO.out.2.size (fun j hj=>(HO.out.1.lt hj).1)
 have HO2:Hid (VOwn w.heap.size 146 2 w2 v2 nl (intF L)/\Below w.heap.size w w2):=⟨o2,B2⟩
 have c1:=X2.cel 1
 clear o2 g2 X1 X2 B2 HO c0
 go_wp2_with fail
 rw[rounds_succ]
 go_wp2_with(at_builtin;go_must (refine wpList_vcat _ rfl _ _ 110 rfl w.heap.size 146 i0 _ 2 16 Tryz.underlying110 hi0 hz0 hs0 hb0 rfl (by decide) v2 nl L rfl HO2.out.1 fb fo nf fc F rfl (H.out.2.2.mono nr HO2.out.2 nr) (by simp only[maxLen];omega) (by omega) HO2.out.2.size (Halt.mk ?_)))
 intro v3 w3 o3 g3
 have B3:Below w.heap.size w w3:=HO2.out.2.grown g3 HO2.out.2.size (fun j hj=>(HO2.out.1.lt hj).1)
 have HO3:Hid (VOwn w.heap.size 146 2 w3 v3 (nl+nf) (intF (cat nl L F))/\Below w.heap.size w w3):=⟨o3,B3⟩
 clear o3 g3 B3 HO2 c1
 go_wp2_with fail
 rw[rounds_succ]
 go_wp2_with fail
 go_ret
 exact⟨_,rfl,HO3.out.1,HO3.out.2⟩
set_option maxHeartbeats 2000000 in
set_option maxRecDepth 100000 in
theorem needs72 (y:Wy) (sa oa ma:Option Addr) (lb lo fb fo:Nat) (sc lc fc oc mc:Nat) (w:World) (hl:y.nl<=1048576) (hf:y.nf<=1048576) (hL:VsAt 2 0 w (some (ad lb lo)) y.nl (intF y.L)) (hF:VsAt 2 0 w (some (ad fb fo)) y.nf (intF y.F)):
  Calls Tryz.prog 98 #[.agg #[.slice sa y.ns sc,.slice (some (ad lb lo)) y.nl lc,.slice (some (ad fb fo)) y.nf fc,.slice oa y.no oc,.slice ma y.nm mc]] w fun e w'=>∃v,e=.returned v/\VOwn w.heap.size 146 2 w' v (y.nl+y.nf) (intF (cat y.nl y.L y.F))/\Below w.heap.size w w':=by
 go_enter Tryz.func98,Tryz.ntmps98
 go_wp2_with fail
 have X:Box ((w.alloc (.cells (vWy y sa sc (some (ad lb lo)) lc (some (ad fb fo)) fc oa oc ma mc) 112)).alloc (.cells #[.slice (some (ad lb lo)) y.nl lc,.slice (some (ad fb fo)) y.nf fc] 110)) (w.heap.size+1) 110 #[.slice (some (ad lb lo)) y.nl lc,.slice (some (ad fb fo)) y.nf fc]:=by
  have :=Box.new (w.alloc (.cells (vWy y sa sc (some (ad lb lo)) lc (some (ad fb fo)) fc oa oc ma mc) 112)) 110 #[.slice (some (ad lb lo)) y.nl lc,.slice (some (ad fb fo)) y.nf fc]
  simpa using this
 have B:=bel2 w (.cells (vWy y sa sc (some (ad lb lo)) lc (some (ad fb fo)) fc oa oc ma mc) 112) (.cells #[.slice (some (ad lb lo)) y.nl lc,.slice (some (ad fb fo)) y.nf fc] 110)
 refine(concat75 (w.heap.size+1) lb lo y.nl lc fb fo y.nf fc y.L y.F _ hl hf X (hL.mono nr B nr) (hF.mono nr B nr)).mono ?_
 rintro e w1 ⟨v,rfl,ho,hb⟩
 have HO:Hid (VOwn w.heap.size 146 2 w1 v (y.nl+y.nf) (intF (cat y.nl y.L y.F))/\Below w.heap.size w w1):=⟨ho.keep B.size fun _ _=>rfl,B.trans (hb.mono B.size)⟩
 clear ho hb X B
 go_wp2_with fail
 go_ret
 exact⟨_,rfl,HO.out.1,HO.out.2⟩
set_option maxHeartbeats 1000000 in
theorem place68 (a:Option Addr) (n cap:Nat) (x:Int) (w:World) (hn:n<=1048576):
  Calls Tryz.prog 90 #[.slice a n cap,.int .i64 x] w fun e w'=>e=.returned (.bool (inB x 0 ((n:Int)-1)))/\w'=w:=by
 go_enter Tryz.func90,Tryz.ntmps90
 go_wp2_with fail
 refine(within30 x 0 ((n:Int)-1) _).mono ?_
 rintro e w1 ⟨rfl,hw⟩
 have hw:=hw.symm
 subst hw
 go_wp2_with fail
 go_ret
 exact⟨rfl,rfl⟩
end Go.Proofs.YtkeilejbelblcaaGreatDoor
