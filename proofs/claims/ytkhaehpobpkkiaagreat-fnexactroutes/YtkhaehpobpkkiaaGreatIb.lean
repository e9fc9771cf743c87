import Derived.Test.YtkhaehpobpkkiaaGreatQa
import Derived.BigQuiet
import Derived.Deep.RegionWith
import Derived.Deep.RegionHeld3
import Derived.Lib.SmallJoins
import Derived.Deep.CutBlock
import Derived.Laws.Cover3
import Derived.Test.YtkhaehpobpkkiaaGreatIa
import Derived.Test.YtkhaehpobpkkiaaGreatNc
namespace Go.Proofs.YtkhaehpobpkkiaaGreat
open Go.RowKit Go.Lib
theorem nextS_none {ln:Int}{S:Nat→Pc}{p way far:Int}{q:Nat}(h:nextS ln S p way far q=none):∀ i,i<q→¬((S i).ln=p∧(S i).br=way∧far<farI ln (S i).sp way):=by
 induction q with
 | zero=>exact fun i hi=>absurd hi (Nat.not_lt_zero _)
 | succ q ih=>
  intro i hi hh
  by_cases hc:(S q).ln=p∧(S q).br=way∧far<farI ln (S q).sp way
  ·rw [nextS_take hc] at h
   cases ho:nextS ln S p way far q with
   | none=>rw [ho] at h;simp [pickS] at h
   | some b=>
    rw [ho] at h
    simp only [pickS] at h
    split at h <;> simp at h
  ·rw [nextS_skip hc] at h
   by_cases e:i=q
   ·subst e;exact hc hh
   ·exact ih h i (by omega) hh
theorem lastS_none {ln:Int}{S:Nat→Pc}{p way:Int}{q:Nat}(h:∀ i,i<q→¬((S i).ln=p∧(S i).br=way)):lastS ln S p way q=none:=by
 induction q with
 | zero=>rfl
 | succ q ih=>
  have h0:=h q (by omega)
  simp only [lastS,h0,if_false]
  exact ih fun i hi=>h i (by omega)
theorem lastS_mem {ln:Int}{S:Nat→Pc}{p way:Int}{q b:Nat}(h:lastS ln S p way q=some b):(S b).ln=p∧(S b).br=way:=by
 induction q generalizing b with
 | zero=>simp [lastS] at h
 | succ q ih=>
  by_cases hc:(S q).ln=p∧(S q).br=way
  ·simp only [lastS,hc,and_self,if_true] at h
   cases ho:lastS ln S p way q with
   | none=>
    rw [ho] at h
    simp only [pickL,Option.some.injEq] at h
    subst h
    exact hc
   | some c=>
    rw [ho] at h
    simp only [pickL] at h
    split at h
    ·simp only [Option.some.injEq] at h
     subst h
     exact hc
    ·simp only [Option.some.injEq] at h
     subst h
     exact ih ho
  ·simp only [lastS,hc,if_false] at h
   exact ih h
theorem lastS_max {ln:Int}{S:Nat→Pc}{p way:Int}{q l:Nat}(hl:l<q)(h1:(S l).ln=p)(h2:(S l).br=way)(hm:∀ i,i<q→(S i).ln=p→(S i).br=way→i≠l→farI ln (S i).sp way<farI ln (S l).sp way):lastS ln S p way q=some l:=by
 have key:∀ k,k≤q→lastS ln S p way k=(if l<k then some l else lastS ln S p way k):=by
  intro k
  induction k with
  | zero=>intro _;simp
  | succ k ih=>
   intro hk
   by_cases hlk:l<k+1
   ·rw [if_pos hlk]
    by_cases e:k=l
    ·subst e
     simp only [lastS,h1,h2,and_self,if_true]
     cases ho:lastS ln S p way k with
     | none=>rfl
     | some b=>
      have hb:=lastS_lt ho
      have hbm:(S b).ln=p∧(S b).br=way:=lastS_mem ho
      have:=hm b (by omega) hbm.1 hbm.2 (by omega)
      simp only [pickL]
      rw [if_pos (by omega)]
    ·have:=ih (by omega)
     rw [if_pos (by omega)] at this
     by_cases hc:(S k).ln=p∧(S k).br=way
     ·simp only [lastS,hc,and_self,if_true,this,pickL]
      have hlt:=hm k (by omega) hc.1 hc.2 e
      rw [if_neg (by omega)]
     ·simp only [lastS,hc,if_false,this]
   ·rw [if_neg hlk]
 have:=key q lr
 rwa [if_pos hl] at this
set_option maxRecDepth 100000 in
set_option maxHeartbeats 4000000 in
theorem last102 {v:Ev}(ok:v.Ok){bt:Nat}{pa:Option Addr}{pc:Nat}{ja:Option Addr}{jc:Nat}{sa:Option Addr}{sc:Nat}(p:Nat)(way:Int)(w:World)(h:TkAt w bt v pa pc ja jc sa sc)(hp:p<v.n)(hw:way=1∨way=-1):
 Calls Tryz.prog 102 #[.pointer (some ⟨bt,0,none⟩),.agg #[.int .i64 p,.int .i64 way]] w fun e w'=>e=.returned (.int .i64 (bestV (lastS (v.P p).ln v.S p way v.k)))∧Below w.heap.size w w':=by
 have OK:Hid v.Ok:=ok
 have hk1:=ok.k1
 have hln:=ok.ln p hp
 have HT:Hid (TkAt w bt v pa pc ja jc sa sc):=h
 have HF:Hid (∀ i,i<v.k→(v.S i).ln=p→0<farI (v.P p).ln (v.S i).sp way∧farI (v.P p).ln (v.S i).sp way<(v.P p).ln):=fun i hi e=>by
  have h9:=ok.sg i hi
  have h8:(v.S i).sp≤(v.P p).ln-1:=by have:=h9.2.2.2.2;rw [e] at this;simpa using this
  unfold farI
  split <;> omega
 clear h ok
 go_enter Tryz.func102,Tryz.ntmps102
 go_wp2_with fail
 have b0:=bel1 w (.cells #[.int .i64 (p:Int),.int .i64 way] 100)
 have A0:=Box.new w 100 #[.int .i64 (p:Int),.int .i64 way]
 refine (next95 OK.out p way 0 _ (HT.out.mono b0 lr) hp hw).mono ?_
 rintro e w1 ⟨rfl,hb1⟩
 have B1:=b0.trans (hb1.mono b0.size)
 have HA1:Hid (Box w1 w.heap.size 100 #[.int .i64 (p:Int),.int .i64 way]):=A0.mono hb1 lr
 have HT1:Hid (TkAt w1 bt v pa pc ja jc sa sc):=HT.out.mono B1 lr
 clear b0 A0 hb1
 go_wp2_with fail
 go_loopw [5,6] (fun s5 s6 wr=>∃ (o:Option Nat) (hr:Int),s6=.int .i64 (bestV (nextS (v.P p).ln v.S p way hr v.k))∧s5=.int .i64 (bestV o)∧0≤hr∧hr<(v.P p).ln∧Hid ((o=none∧hr=0)∨∃ l,o=some l∧l<v.k∧(v.S l).ln=p∧(v.S l).br=way∧hr=farI (v.P p).ln (v.S l).sp way)∧Below w1.heap.size w1 wr) (fun _ s6 _=>((v.P p).ln-(if intOf s6<0 then (v.P p).ln else farI (v.P p).ln (v.S (intOf s6).toNat).sp way)).toNat)
 case atStart=>exact ⟨none,0,rfl,rfl,by omega,by omega,.inl ⟨rfl,rfl⟩,Below.refl _ _⟩
 case round=>
  obtain ⟨o,hr,rfl,rfl,hr0,hr1,HI,hbel⟩:=hrel
  cases hnx:nextS (v.P p).ln v.S p way hr v.k with
  | none=>
   have HV:Hid (bestV o=bestV (lastS (v.P p).ln v.S p way v.k)):=by
    show _=_
    have hno:=nextS_none hnx
    rcases HI.out with ⟨rfl,rfl⟩ | ⟨l,rfl,hl,e1,e2,e3⟩
    ·rw [lastS_none]
     exact fun i hi hh=>hno i hi ⟨hh.1,hh.2,(HF.out i hi hh.1).1⟩
    ·rw [lastS_max hl e1 e2]
     intro i hi g1 g2 gne
     have hle:¬hr<farI (v.P p).ln (v.S i).sp way:=fun hh=>hno i hi ⟨g1,g2,hh⟩
     have hne:farI (v.P p).ln (v.S i).sp way≠farI (v.P p).ln (v.S l).sp way:=fun he=>gne (OK.out.apart i l hi hl (g1.trans e1.symm) (by unfold farI at he;split at he <;> omega) (g2.trans e2.symm))
     omega
   clear HI
   have hm1:bestV (none:Option Nat)=-1:=rfl
   rw [hm1]
   go_wp2_with fail
   go_ret
   exact ⟨by rw [← HV.out];rfl,B1.trans (hbel.mono B1.size)⟩
  | some b=>
   have hbl:=nextS_lt hnx
   obtain ⟨g1,g2,g3⟩:=nextS_spec hnx
   have hm1:bestV (some b)=(b:Int):=rfl
   have hb0:(0:Int)≤(b:Int):=by omega
   have hbk:(b:Int)<(v.k:Int):=by omega
   have hfb:=HF.out b hbl g1
   have hsg:=OK.out.sg b hbl
   rw [hm1]
   obtain ⟨b2,off2,rfl,_,hb2,hc2⟩:=(HT1.out.mono hbel lr).net.s (by omega)
   obtain ⟨_,_,c2,_⟩:=hc2 b hbl
   have t1:=(HT1.out.mono hbel lr).s
   have x0:wr.cell? ⟨w.heap.size,0,none⟩=some (.int .i64 (p:Int)):=(HA1.out.mono hbel lr).cell 0
   have x1:wr.cell? ⟨w.heap.size,1,none⟩=some (.int .i64 way):=(HA1.out.mono hbel lr).cell 1
   have HAd:Hid (Box wr.drew w.heap.size 100 #[.int .i64 (p:Int),.int .i64 way]):=(HA1.out.mono hbel lr).drew
   have HTd:Hid (TkAt wr.drew bt v pa pc ja jc (some ⟨b2,off2,none⟩) sc):=HT1.out.mono hbel.drew lr
   have HCd:Hid (wr.drew.cell? ⟨b2,off2+b*4+2,none⟩=some (.int .i64 (v.S b).sp)):=c2
   have HB2:Hid (b2<wr.drew.heap.size):=hb2
   have hspl:(v.S b).sp≤10000000:=by
    have h6:=hsg.2.2.2.2
    rw [g1] at h6
    have h7:(v.S b).sp≤(v.P p).ln-1:=by simpa using h6
    omega
   have HN2:Hid (((none:Option Nat)=none∧hr=0)∨True):=.inr trivial
   clear hc2 HI HN2
   go_wp2_with fail
   go_region_held3 (fun w'=>w'.cell? ⟨w.heap.size,0,none⟩=some (.int .i64 (p:Int))∧w'.cell? ⟨w.heap.size,1,none⟩=some (.int .i64 way)∧w'.cell? ⟨bt,2,none⟩=some (.slice (some ⟨b2,off2,none⟩) v.k sc)∧w'.cell? ⟨b2,off2+b*4+2,none⟩=some (.int .i64 (v.S b).sp)) (go_keep) (first
    | (go_at_call 68;refine (along68 OK.out p way (v.S b).sp _ HTd.out hp (by omega)).mono ?_;rintro e w2 ⟨rfl,hb3⟩;have m0:w2.cell? ⟨w.heap.size,0,none⟩=some (.int .i64 (p:Int)):=(HAd.out.mono hb3 lr).cell 0;have m1:w2.cell? ⟨w.heap.size,1,none⟩=some (.int .i64 way):=(HAd.out.mono hb3 lr).cell 1;have m2:w2.cell? ⟨bt,2,none⟩=some (.slice (some ⟨b2,off2,none⟩) v.k sc):=(HTd.out.mono hb3 lr).s;have m3:w2.cell? ⟨b2,off2+b*4+2,none⟩=some (.int .i64 (v.S b).sp):=(hb3.cell (p:=⟨b2,off2+b*4+2,none⟩) HB2.out).trans HCd.out)
    | (go_at_call 95;refine (next95 OK.out p way (farI (v.P p).ln (v.S b).sp way) _ (HTd.out.mono hb3 lr) hp hw).mono ?_;rintro e w3 ⟨rfl,hb4⟩;have hc4:=hb3.trans (hb4.mono hb3.size);have n0:w3.cell? ⟨w.heap.size,0,none⟩=some (.int .i64 (p:Int)):=(HAd.out.mono hc4 lr).cell 0;have n1:w3.cell? ⟨w.heap.size,1,none⟩=some (.int .i64 way):=(HAd.out.mono hc4 lr).cell 1;have n2:w3.cell? ⟨bt,2,none⟩=some (.slice (some ⟨b2,off2,none⟩) v.k sc):=(HTd.out.mono hc4 lr).s;have n3:w3.cell? ⟨b2,off2+b*4+2,none⟩=some (.int .i64 (v.S b).sp):=(hc4.cell (p:=⟨b2,off2+b*4+2,none⟩) HB2.out).trans HCd.out))
   all_goals
    have hb9:Below w1.heap.size w1 w3:=hbel.drew.trans (hc4.mono hbel.drew.size)
    have HMS:Hid (((v.P p).ln-(if intOf (.int .i64 (bestV (nextS (v.P p).ln v.S p way (farI (v.P p).ln (v.S b).sp way) v.k)))<0 then (v.P p).ln else farI (v.P p).ln (v.S (intOf (.int .i64 (bestV (nextS (v.P p).ln v.S p way (farI (v.P p).ln (v.S b).sp way) v.k)))).toNat).sp way)).toNat<((v.P p).ln-(if intOf (.int .i64 (b:Int))<0 then (v.P p).ln else farI (v.P p).ln (v.S (intOf (.int .i64 (b:Int))).toNat).sp way)).toNat):=by
     show _ < _
     have e2:(if intOf (.int .i64 (b:Int))<0 then (v.P p).ln else farI (v.P p).ln (v.S (intOf (.int .i64 (b:Int))).toNat).sp way)=farI (v.P p).ln (v.S b).sp way:=by
      rw [show intOf (.int .i64 (b:Int))=(b:Int) from rfl,if_neg (by omega),Int.toNat_natCast]
     rw [e2]
     cases hn2:nextS (v.P p).ln v.S p way (farI (v.P p).ln (v.S b).sp way) v.k with
     | none=>
      rw [show intOf (.int .i64 (bestV none))=-1 from rfl,if_pos (by omega)]
      omega
     | some b'=>
      have h8:=(nextS_spec hn2).2.2
      rw [show intOf (.int .i64 (bestV (some b')))=(b':Int) from rfl,if_neg (by omega),Int.toNat_natCast]
      omega
    go_wp2_with fail
    go_roundw
    case rel=>exact ⟨some b,farI (v.P p).ln (v.S b).sp way,rfl,rfl,by omega,by omega,.inr ⟨b,rfl,hbl,g1,g2,rfl⟩,hb9⟩
    case measure=>exact HMS.out
set_option maxRecDepth 100000 in
set_option maxHeartbeats 2000000 in
theorem cloneStep (v:Value)(l:List Rw)(w:World)(hn:l.length≤1048576)(hE:LsAt 2 0 w v l):
 Calls Tryz.prog 69 #[v] w fun e w'=>∃ r,e=.returned r∧Own w.heap.size 100 2 w' r l∧Below w.heap.size w w':=by
 obtain ⟨i1,e1,e2,e3,e4⟩:=info_parts infoStep
 have HE:Hid (LsAt 2 0 w v l):=hE
 obtain ⟨hwd,⟨rfl,rfl⟩ | ⟨b,off,cap,rfl,h1,h2,h3⟩⟩:=hE
 ·clear HE
  have hnil:∀ W:World,(binOp .eql 58 (.slice none 0 0) (.slice none 0 0)).run Tryz.prog W=.ok (.bool true) W:=fun W=>by simp only [binOp];simp [run_equal_slice_nil W 58 100 none 0 0 Tryz.underlying58]
  go_enter Tryz.func69,Tryz.ntmps69
  go_wp2_with fail
  go_ret
  exact ⟨_,rfl,Own.nil _ _ _ _,Below.refl _ _⟩
 ·clear h1 h2 h3 hwd
  have b0:=bel1 w (.cells #[] 100)
  have hnil:∀ W:World,(binOp .eql 58 (.slice (some ⟨b,off,none⟩) l.length cap) (.slice none 0 0)).run Tryz.prog W=.ok (.bool false) W:=fun W=>by simp only [binOp];simp [run_equal_slice_nil W 58 100 (some ⟨b,off,none⟩) l.length cap Tryz.underlying58]
  go_enter Tryz.func69,Tryz.ntmps69
  go_wp2_with (at_builtin;go_must (refine wpList_appsH _ rfl (.tmp 5) (.tmp 6) 58 rfl w.heap.size 100 i1 _ 2 16 Tryz.underlying58 e1 e2 e3 e4 rfl (by decide) _ [] rfl (Own.made w w.heap.size 100 2 lr) _ l rfl (HE.out.mono lr b0 lr) (by simp [maxLen];omega) (by simp;omega) b0.size ?_))
  refine Halt.mk fun v1 w1 ho1 hg1=>?_
  have B1:Below w.heap.size w w1:=b0.grown hg1 b0.size (fun k e=>by simp only [Value.ownBlock,Option.some.injEq] at e;omega)
  obtain ⟨a1,c1,rfl⟩:=ho1.val
  have HO:Hid (Own w.heap.size 100 2 w1 (.slice a1 l.length c1) l):=ho1
  clear ho1 hg1 b0
  go_wp2_with fail
  go_ret
  exact ⟨_,rfl,HO.out,B1⟩
set_option maxRecDepth 100000 in
set_option maxHeartbeats 2000000 in
theorem cloneLie (v:Value)(l:List Rw)(w:World)(hn:l.length≤1048576)(hE:LsAt 2 0 w v l):
 Calls Tryz.prog 70 #[v] w fun e w'=>∃ r,e=.returned r∧Own w.heap.size 136 2 w' r l∧Below w.heap.size w w':=by
 obtain ⟨i1,e1,e2,e3,e4⟩:=info_parts infoLie
 have HE:Hid (LsAt 2 0 w v l):=hE
 obtain ⟨hwd,⟨rfl,rfl⟩ | ⟨b,off,cap,rfl,h1,h2,h3⟩⟩:=hE
 ·clear HE
  have hnil:∀ W:World,(binOp .eql 59 (.slice none 0 0) (.slice none 0 0)).run Tryz.prog W=.ok (.bool true) W:=fun W=>by simp only [binOp];simp [run_equal_slice_nil W 59 136 none 0 0 Tryz.underlying59]
  go_enter Tryz.func70,Tryz.ntmps70
  go_wp2_with fail
  go_ret
  exact ⟨_,rfl,Own.nil _ _ _ _,Below.refl _ _⟩
 ·clear h1 h2 h3 hwd
  have b0:=bel1 w (.cells #[] 136)
  have hnil:∀ W:World,(binOp .eql 59 (.slice (some ⟨b,off,none⟩) l.length cap) (.slice none 0 0)).run Tryz.prog W=.ok (.bool false) W:=fun W=>by simp only [binOp];simp [run_equal_slice_nil W 59 136 (some ⟨b,off,none⟩) l.length cap Tryz.underlying59]
  go_enter Tryz.func70,Tryz.ntmps70
  go_wp2_with (at_builtin;go_must (refine wpList_appsH _ rfl (.tmp 5) (.tmp 6) 59 rfl w.heap.size 136 i1 _ 2 16 Tryz.underlying59 e1 e2 e3 e4 rfl (by decide) _ [] rfl (Own.made w w.heap.size 136 2 lr) _ l rfl (HE.out.mono lr b0 lr) (by simp [maxLen];omega) (by simp;omega) b0.size ?_))
  refine Halt.mk fun v1 w1 ho1 hg1=>?_
  have B1:Below w.heap.size w w1:=b0.grown hg1 b0.size (fun k e=>by simp only [Value.ownBlock,Option.some.injEq] at e;omega)
  obtain ⟨a1,c1,rfl⟩:=ho1.val
  have HO:Hid (Own w.heap.size 136 2 w1 (.slice a1 l.length c1) l):=ho1
  clear ho1 hg1 b0
  go_wp2_with fail
  go_ret
  exact ⟨_,rfl,HO.out,B1⟩
set_option maxRecDepth 100000 in
set_option maxHeartbeats 2000000 in
theorem cloneInt (v:Value)(l:List Rw)(w:World)(hn:l.length≤1048576)(hE:LsAt 1 0 w v l):
 Calls Tryz.prog 71 #[v] w fun e w'=>∃ r,e=.returned r∧Own w.heap.size 3 1 w' r l∧Below w.heap.size w w':=by
 obtain ⟨i1,e1,e2,e3,e4⟩:=info_parts infoInt
 have HE:Hid (LsAt 1 0 w v l):=hE
 obtain ⟨hwd,⟨rfl,rfl⟩ | ⟨b,off,cap,rfl,h1,h2,h3⟩⟩:=hE
 ·clear HE
  have hnil:∀ W:World,(binOp .eql 60 (.slice none 0 0) (.slice none 0 0)).run Tryz.prog W=.ok (.bool true) W:=fun W=>by simp only [binOp];simp [run_equal_slice_nil W 60 3 none 0 0 Tryz.underlying60]
  go_enter Tryz.func71,Tryz.ntmps71
  go_wp2_with fail
  go_ret
  exact ⟨_,rfl,Own.nil _ _ _ _,Below.refl _ _⟩
 ·clear h1 h2 h3 hwd
  have b0:=bel1 w (.cells #[] 3)
  have hnil:∀ W:World,(binOp .eql 60 (.slice (some ⟨b,off,none⟩) l.length cap) (.slice none 0 0)).run Tryz.prog W=.ok (.bool false) W:=fun W=>by simp only [binOp];simp [run_equal_slice_nil W 60 3 (some ⟨b,off,none⟩) l.length cap Tryz.underlying60]
  go_enter Tryz.func71,Tryz.ntmps71
  go_wp2_with (at_builtin;go_must (refine wpList_appsH _ rfl (.tmp 5) (.tmp 6) 60 rfl w.heap.size 3 i1 _ 1 8 Tryz.underlying60 e1 e2 e3 e4 rfl (by decide) _ [] rfl (Own.made w w.heap.size 3 1 lr) _ l rfl (HE.out.mono lr b0 lr) (by simp [maxLen];omega) (by simp;omega) b0.size ?_))
  refine Halt.mk fun v1 w1 ho1 hg1=>?_
  have B1:Below w.heap.size w w1:=b0.grown hg1 b0.size (fun k e=>by simp only [Value.ownBlock,Option.some.injEq] at e;omega)
  obtain ⟨a1,c1,rfl⟩:=ho1.val
  have HO:Hid (Own w.heap.size 3 1 w1 (.slice a1 l.length c1) l):=ho1
  clear ho1 hg1 b0
  go_wp2_with fail
  go_ret
  exact ⟨_,rfl,HO.out,B1⟩
set_option maxRecDepth 100000 in
set_option maxHeartbeats 2000000 in
theorem clonePart (v:Value)(l:List Rw)(w:World)(hn:l.length≤1048576)(hE:LsAt 3 0 w v l):
 Calls Tryz.prog 72 #[v] w fun e w'=>∃ r,e=.returned r∧Own w.heap.size 104 3 w' r l∧Below w.heap.size w w':=by
 obtain ⟨i1,e1,e2,e3,e4⟩:=info_parts infoPart
 have HE:Hid (LsAt 3 0 w v l):=hE
 obtain ⟨hwd,⟨rfl,rfl⟩ | ⟨b,off,cap,rfl,h1,h2,h3⟩⟩:=hE
 ·clear HE
  have hnil:∀ W:World,(binOp .eql 61 (.slice none 0 0) (.slice none 0 0)).run Tryz.prog W=.ok (.bool true) W:=fun W=>by simp only [binOp];simp [run_equal_slice_nil W 61 104 none 0 0 Tryz.underlying61]
  go_enter Tryz.func72,Tryz.ntmps72
  go_wp2_with fail
  go_ret
  exact ⟨_,rfl,Own.nil _ _ _ _,Below.refl _ _⟩
 ·clear h1 h2 h3 hwd
  have b0:=bel1 w (.cells #[] 104)
  have hnil:∀ W:World,(binOp .eql 61 (.slice (some ⟨b,off,none⟩) l.length cap) (.slice none 0 0)).run Tryz.prog W=.ok (.bool false) W:=fun W=>by simp only [binOp];simp [run_equal_slice_nil W 61 104 (some ⟨b,off,none⟩) l.length cap Tryz.underlying61]
  go_enter Tryz.func72,Tryz.ntmps72
  go_wp2_with (at_builtin;go_must (refine wpList_appsH _ rfl (.tmp 5) (.tmp 6) 61 rfl w.heap.size 104 i1 _ 3 24 Tryz.underlying61 e1 e2 e3 e4 rfl (by decide) _ [] rfl (Own.made w w.heap.size 104 3 lr) _ l rfl (HE.out.mono lr b0 lr) (by simp [maxLen];omega) (by simp;omega) b0.size ?_))
  refine Halt.mk fun v1 w1 ho1 hg1=>?_
  have B1:Below w.heap.size w w1:=b0.grown hg1 b0.size (fun k e=>by simp only [Value.ownBlock,Option.some.injEq] at e;omega)
  obtain ⟨a1,c1,rfl⟩:=ho1.val
  have HO:Hid (Own w.heap.size 104 3 w1 (.slice a1 l.length c1) l):=ho1
  clear ho1 hg1 b0
  go_wp2_with fail
  go_ret
  exact ⟨_,rfl,HO.out,B1⟩
theorem mem_two {l:List Rw}(h:Wide 2 l)(o x:Int):[o,x] ∈ l↔∃ q,q<l.length∧fnL l q 0=o∧fnL l q 1=x:=by
 constructor
 ·intro hm
  obtain ⟨q,hq,he⟩:=List.getElem_of_mem hm
  refine ⟨q,hq,?_,?_⟩ <;> simp [fnL,List.getD_eq_getElem?_getD,List.getElem?_eq_getElem hq,he]
 ·rintro ⟨q,hq,h1,h2⟩
  have hw:=h l[q] (List.getElem_mem hq)
  have e0:l[q]=[o,x]:=by
   simp only [fnL,List.getD_eq_getElem?_getD,List.getElem?_eq_getElem hq,Option.getD_some] at h1 h2
   match hh:l[q],hw with
   | [a,b],_=>
    rw [hh] at h1 h2
    simp at h1 h2
    rw [h1,h2]
  rw [← e0]
  exact List.getElem_mem hq
set_option maxHeartbeats 1000000 in
theorem index116 (a:Option Addr)(n cap:Nat)(F:Nat→Nat→Int)(o l:Int)(w:World)(hn:n≤2097152)(hE:NsAt 2 0 w a n F):
 Calls Tryz.prog 116 #[.slice a n cap,.agg #[.int .i64 o,.int .i64 l]] w fun e w'=>∃ i:Int,e=.returned (.int .i64 i)∧(0≤i↔∃ q,q<n∧F q 0=o∧F q 1=l)∧Below w.heap.size w w':=by
 go_enter Tryz.func116,Tryz.ntmps116
 go_wp2_with fail
 have b0:=bel1 w (.cells #[.int .i64 o,.int .i64 l] 100)
 go_loopw [8] (fun i wr=>∃ (k:Nat),k≤n∧i=.int .i64 k∧Hid (∀ q,q<k→¬(F q 0=o∧F q 1=l))∧Below (w.heap.size+1) (w.alloc (.cells #[.int .i64 o,.int .i64 l] 100)) wr) (fun i _=>n-(intOf i).toNat)
 case atStart=>exact ⟨0,Nat.zero_le _,rfl,fun q hq=>absurd hq (Nat.not_lt_zero _),Below.refl _ _⟩
 case round=>
  obtain ⟨k,hk,rfl,hall,hbel⟩:=hrel
  have x0:wr.cell? ⟨w.heap.size,0,none⟩=some (.int .i64 o):=(hbel.cell (p:=⟨w.heap.size,0,none⟩) (by show w.heap.size<w.heap.size+1;omega)).trans (by simp)
  have x1:wr.cell? ⟨w.heap.size,1,none⟩=some (.int .i64 l):=(hbel.cell (p:=⟨w.heap.size,1,none⟩) (by show w.heap.size<w.heap.size+1;omega)).trans (by simp)
  have hB:Below w.heap.size w wr:=b0.trans (hbel.mono (by omega))
  by_cases hlt:k<n
  ·obtain ⟨b,off,rfl,_,hb,hc⟩:=(hE.mono lr hB lr) (by omega)
   have c0:wr.cell? ⟨b,off+k*2,none⟩=some (.int .i64 (F k 0)):=hc k hlt 0 (by omega)
   have c1:wr.cell? ⟨b,off+k*2+1,none⟩=some (.int .i64 (F k 1)):=hc k hlt 1 (by omega)
   have hlt':(k:Int)<(n:Int):=by omega
   have hk0:(0:Int)≤(k:Int):=by omega
   clear hc
   by_cases h:F k 0=o∧F k 1=l
   ·have h1:(o == F k 0)=true:=by simp [h.1]
    have h2:(l == F k 1)=true:=by simp [h.2]
    have HV:Hid (∃ q,q<n∧F q 0=o∧F q 1=l):=⟨k,hlt,h⟩
    clear hall h
    go_wp2_with fail
    go_quiet (fail)
    go_wp2_with fail
    go_ret
    exact ⟨_,rfl,⟨fun _=>HV.out,fun _=>by omega⟩,below_drewN hB _⟩
   ·have HV:Hid (∀ q,q<k+1→¬(F q 0=o∧F q 1=l)):=by
     intro q hq
     by_cases e:q=k
     ·subst e;exact h
     ·exact hall.out q (by omega)
    by_cases h0:o=F k 0
    ·have h1:(o == F k 0)=true:=by simp [h0]
     have h2:(l == F k 1)=false:=by
      simp only [beq_eq_false_iff_ne,ne_eq]
      exact fun e=>h ⟨h0.symm,e.symm⟩
     clear hall h h0
     go_wp2_with fail
     go_quiet (fail)
     go_wp2_with fail
     go_roundw
     case rel=>exact ⟨k+1,by omega,by go_num,HV,below_drewN hbel _⟩
     case measure=>simp [intOf];omega
    ·have h1:(o == F k 0)=false:=by simp [h0]
     clear hall h h0
     go_wp2_with fail
     go_quiet (fail)
     go_wp2_with fail
     go_roundw
     case rel=>exact ⟨k+1,by omega,by go_num,HV,below_drewN hbel _⟩
     case measure=>simp [intOf];omega
  ·obtain rfl:k=n:=by omega
   go_wp2_with fail
   go_ret
   exact ⟨-1,rfl,⟨fun h=>absurd h (by omega),fun ⟨q,hq,h⟩=>absurd h (hall.out q hq)⟩,hB⟩
set_option maxHeartbeats 1000000 in
theorem contains94 (v:Value)(lst:List Rw)(o l:Int)(w:World)(hn:lst.length≤2097152)(hE:LsAt 2 0 w v lst):
 Calls Tryz.prog 94 #[v,.agg #[.int .i64 o,.int .i64 l]] w fun e w'=>e=.returned (.bool (decide ([o,l] ∈ lst)))∧Below w.heap.size w w':=by
 obtain ⟨a,cap,rfl,hN⟩:=hE.val
 have HI:Hid ([o,l] ∈ lst↔∃ q,q<lst.length∧fnL lst q 0=o∧fnL lst q 1=l):=mem_two hE.1 o l
 clear hE
 go_enter Tryz.func94,Tryz.ntmps94
 go_wp2_with fail
 have b0:=bel1 w (.cells #[.int .i64 o,.int .i64 l] 100)
 refine (index116 a lst.length cap (fnL lst) o l _ hn (hN.mono lr b0 lr)).mono ?_
 rintro e w1 ⟨i,rfl,hi,hb1⟩
 have H9:Hid (decide ([o,l] ∈ lst)=decide (0≤i)):=by
  show _=_
  rw [decide_eq_decide,HI.out,hi]
 have hB:=b0.trans (hb1.mono b0.size)
 clear hi HI b0 hb1
 go_wp2_with fail
 go_ret
 exact ⟨by rw [H9.out];rfl,hB⟩
theorem ns_new {w:World}{c:Array Value}{e:TypeId}{n:Nat}{F:Nat→Nat→Int}{q C:Nat}(hq:w.heap.size=q)(hC:C≤q)(h:∀ i,i<n→c[i]?=some (.int .i64 (F i 0))):NsAt 1 C (w.alloc (.cells c e)) (some ⟨q,0,none⟩) n F:=by
 subst hq
 intro _
 refine ⟨w.heap.size,0,rfl,hC,by simp,fun i hi j hj=>?_⟩
 obtain rfl:j=0:=by omega
 rw [World.cell?_alloc_at _ _ _ _ rfl]
 simpa using h i hi
set_option maxRecDepth 100000 in
set_option maxHeartbeats 1000000 in
theorem overPlain (q:Nat)(w:World)(hq:q<2):
 Calls Tryz.prog 149 #[.agg #[],.int .i64 (q:Int)] w fun e w'=>∃ a cap,e=.returned (.slice a (acrossF 2 q).length cap)∧NsAt 1 w.heap.size w' a (acrossF 2 q).length (fun i _=>(((acrossF 2 q).getD i 0:Nat):Int))∧Below w.heap.size w w':=by
 rcases (show q=0∨q=1 by omega) with rfl | rfl
 ·go_enter Tryz.func149,Tryz.ntmps149
  go_wp2_with fail
  go_ret
  exact ⟨some ⟨w.heap.size+1,0,none⟩,1,rfl,ns_new (by simp) (by omega) (fun i hi=>by
   have hi':i<1:=hi
   rcases (show i=0 by omega) with rfl <;> rfl),bel2 _ _ _⟩
 ·go_enter Tryz.func149,Tryz.ntmps149
  go_wp2_with fail
  go_ret
  exact ⟨some ⟨w.heap.size+1,0,none⟩,1,rfl,ns_new (by simp) (by omega) (fun i hi=>by
   have hi':i<1:=hi
   rcases (show i=0 by omega) with rfl <;> rfl),bel2 _ _ _⟩
set_option maxRecDepth 100000 in
set_option maxHeartbeats 1000000 in
theorem overSwitch (q:Nat)(w:World)(hq:q<3):
 Calls Tryz.prog 145 #[.agg #[],.int .i64 (q:Int)] w fun e w'=>∃ a cap,e=.returned (.slice a (acrossF 3 q).length cap)∧NsAt 1 w.heap.size w' a (acrossF 3 q).length (fun i _=>(((acrossF 3 q).getD i 0:Nat):Int))∧Below w.heap.size w w':=by
 rcases (show q=0∨q=1∨q=2 by omega) with rfl | rfl | rfl
 ·go_enter Tryz.func145,Tryz.ntmps145
  go_wp2_with fail
  go_ret
  exact ⟨some ⟨w.heap.size+1,0,none⟩,2,rfl,ns_new (by simp) (by omega) (fun i hi=>by
   have hi':i<2:=hi
   rcases (show i=0∨i=1 by omega) with rfl | rfl <;> rfl),bel2 _ _ _⟩
 ·go_enter Tryz.func145,Tryz.ntmps145
  go_wp2_with fail
  go_ret
  exact ⟨some ⟨w.heap.size+1,0,none⟩,1,rfl,ns_new (by simp) (by omega) (fun i hi=>by
   have hi':i<1:=hi
   rcases (show i=0 by omega) with rfl <;> rfl),bel2 _ _ _⟩
 ·go_enter Tryz.func145,Tryz.ntmps145
  go_wp2_with fail
  go_ret
  exact ⟨some ⟨w.heap.size+1,0,none⟩,1,rfl,ns_new (by simp) (by omega) (fun i hi=>by
   have hi':i<1:=hi
   rcases (show i=0 by omega) with rfl <;> rfl),bel2 _ _ _⟩
set_option maxRecDepth 100000 in
set_option maxHeartbeats 1000000 in
theorem overCross (q:Nat)(w:World)(hq:q<4):
 Calls Tryz.prog 143 #[.agg #[],.int .i64 (q:Int)] w fun e w'=>∃ a cap,e=.returned (.slice a (acrossF 4 q).length cap)∧NsAt 1 w.heap.size w' a (acrossF 4 q).length (fun i _=>(((acrossF 4 q).getD i 0:Nat):Int))∧Below w.heap.size w w':=by
 rcases (show q=0∨q=1∨q=2∨q=3 by omega) with rfl | rfl | rfl | rfl
 ·have hx:bits .xor .i64 (0:Int) 1=1:=by decide
  have hx2:bits .xor .i64 ((0:Nat):Int) 1=1:=by decide
  go_enter Tryz.func143,Tryz.ntmps143
  go_wp2_with fail
  go_ret
  exact ⟨some ⟨w.heap.size+1,0,none⟩,1,rfl,ns_new (by simp) (by omega) (fun i hi=>by
   have hi':i<1:=hi
   rcases (show i=0 by omega) with rfl <;> rfl),bel2 _ _ _⟩
 ·have hx:bits .xor .i64 (1:Int) 1=0:=by decide
  have hx2:bits .xor .i64 ((1:Nat):Int) 1=0:=by decide
  go_enter Tryz.func143,Tryz.ntmps143
  go_wp2_with fail
  go_ret
  exact ⟨some ⟨w.heap.size+1,0,none⟩,1,rfl,ns_new (by simp) (by omega) (fun i hi=>by
   have hi':i<1:=hi
   rcases (show i=0 by omega) with rfl <;> rfl),bel2 _ _ _⟩
 ·have hx:bits .xor .i64 (2:Int) 1=3:=by decide
  have hx2:bits .xor .i64 ((2:Nat):Int) 1=3:=by decide
  go_enter Tryz.func143,Tryz.ntmps143
  go_wp2_with fail
  go_ret
  exact ⟨some ⟨w.heap.size+1,0,none⟩,1,rfl,ns_new (by simp) (by omega) (fun i hi=>by
   have hi':i<1:=hi
   rcases (show i=0 by omega) with rfl <;> rfl),bel2 _ _ _⟩
 ·have hx:bits .xor .i64 (3:Int) 1=2:=by decide
  have hx2:bits .xor .i64 ((3:Nat):Int) 1=2:=by decide
  go_enter Tryz.func143,Tryz.ntmps143
  go_wp2_with fail
  go_ret
  exact ⟨some ⟨w.heap.size+1,0,none⟩,1,rfl,ns_new (by simp) (by omega) (fun i hi=>by
   have hi':i<1:=hi
   rcases (show i=0 by omega) with rfl <;> rfl),bel2 _ _ _⟩
set_option maxHeartbeats 1000000 in
theorem overBuffer (q:Nat)(w:World):
 Calls Tryz.prog 147 #[.agg #[],.int .i64 (q:Int)] w fun e w'=>e=.returned (.slice none 0 0)∧Below w.heap.size w w':=by
 go_enter Tryz.func147,Tryz.ntmps147
 go_wp2_with fail
 go_ret
 exact ⟨rfl,bel1 _ _⟩
theorem cell_keep {B:Nat}{W w1:World}{b o:Nat}{v:Value}(hb:Below B W w1)(hlt:b<B)(h:W.cell? ⟨b,o,none⟩=some v):w1.cell? ⟨b,o,none⟩=some v:=(hb.cell (p:=⟨b,o,none⟩) hlt).trans h
theorem take_lit {P:Program}{L:List Oper}{Q:Exit→Act→World→Prop}{md:Region.Mode}{S:World→Prop}{i:Nat}{oi:Oper}{v:Value}{fuel:Nat}{listed:Array Bool}{a:Act}{w:World}(hi:L[i]?=some oi)
 (hs:Region.noSelect L.toArray=true) (hf:Region.free md L.toArray listed i=true) (hr:(Region.ready md L.toArray listed).contains i=true)
 (hQ:∀ c a w,Q (.panic c) (a.put oi.dst v) w→Q (.panic c) a w) (hy:YieldsIf P L.toArray S oi v a) (hS:S w)
 (h:wpAnyH P md L.toArray Q S fuel (listed.setIfInBounds i true) (a.put oi.dst v) w):wpAnyH P md L.toArray Q S (fuel+1) listed a w:=
 wpAnyH_take (by simpa using hi) hs hf hr hQ hy hS h
theorem ready_lit {P:Program}{L:List Oper}{Q:Exit→Act→World→Prop}{md:Region.Mode}{S:World→Prop}{i:Nat}{o:Oper}{fuel:Nat}{listed:Array Bool}{a:Act}{w:World}(hr:Region.ready md L.toArray listed=[i])(ho:L[i]?=some o)
 (h:∀ K':Act→World→Prop,Shut (∀ a w,S w→(S w→wpAnyH P md L.toArray Q S fuel (listed.setIfInBounds i true) a w)→K' a w)→if Region.wanted o (yielded L.toArray a.tmps)=true then Oper.wp P o a w K' Q else K' (a.put o.dst undef) w):wpAnyH P md L.toArray Q S (fuel+1) listed a w:=
 wpAnyH_ready hr (by simp) (AllReadyH.cons (by simpa using ho) h AllReadyH.nil)
theorem tk {P:Program}{L:List Oper}{Q:Exit→Act→World→Prop}{md:Region.Mode}{S:World→Prop}{oi:Oper}{v:Value}{fuel:Nat}{listed l2:Array Bool}{a a2:Act}{w:World}(i:Nat)(h:wpAnyH P md L.toArray Q S fuel l2 a2 w)(hi:L[i]?=some oi:=by rfl)
 (hs:Region.noSelect L.toArray=true:=by kernel_rfl) (hf:Region.free md L.toArray listed i=true:=by kernel_rfl) (hr:(Region.ready md L.toArray listed).contains i=true:=by kernel_rfl)
 (hy:YieldsIf P L.toArray S oi v a:=by exact Or.inl ⟨by rfl,by intro wq hSw; (try dsimp only at hSw); go_simp; try with_reducible rfl⟩)
 (hQ:∀ c a w,Q (.panic c) (a.put oi.dst v) w→Q (.panic c) a w:=by exact fun _ _ _ h=>h) (hS:S w:=by assumption)
 (hl:listed.setIfInBounds i true=l2:=by ((try simp only [List.setIfInBounds_toArray,List.set_cons_zero,List.set_cons_succ]); rfl)) (ha:a.put oi.dst v=a2:=by (simp only [Act.put,List.setIfInBounds_toArray,List.set_cons_zero,List.set_cons_succ]; rfl)):wpAnyH P md L.toArray Q S (fuel+1) listed a w:=
 take_lit hi hs hf hr hQ hy hS (by rw [hl,ha]; exact h)
theorem rl {P:Program}{L:List Oper}{Q:Exit→Act→World→Prop}{md:Region.Mode}{S:World→Prop}{o:Oper}{fuel:Nat}{listed:Array Bool}{a:Act}{w:World}(i:Nat)
 (h:∀ K':Act→World→Prop,Shut (∀ a w,S w→(S w→wpAnyH P md L.toArray Q S fuel (listed.setIfInBounds i true) a w)→K' a w)→if Region.wanted o (yielded L.toArray a.tmps)=true then Oper.wp P o a w K' Q else K' (a.put o.dst undef) w)
 (hr:Region.ready md L.toArray listed=[i]:=by kernel_rfl) (ho:L[i]?=some o:=by rfl):wpAnyH P md L.toArray Q S (fuel+1) listed a w:=
 ready_lit hr ho h
theorem box_ne {w:World}{a b:Nat}{T T':TypeId}{xs ys:Array Value}(h:Box w a T xs)(h':Box w b T' ys)(hT:T≠T'):a≠b:=fun e=>by
 subst e
 have h1:some (Obj.cells xs T (0,0))=some (Obj.cells ys T' (0,0)):=Eq.trans (Eq.symm h) h'
 simp only [Option.some.injEq,Obj.cells.injEq] at h1
 exact hT h1.2.1
def slotOf (e:En):Nat:=e.pc.toNat*4+e.sd.toNat*2
def Placed (v:Ev)(vs:Array Value)(j k:Nat):Prop:=
 ∀ j' q',j' < v.m→q' < (v.J j').ne→(j' < j∨(j'=j∧q' < k))→vs[slotOf ((v.J j').E q')]?=some (.int .i64 (j':Int))∧vs[slotOf ((v.J j').E q')+1]?=some (.int .i64 (q':Int))
theorem slot_lt {v:Ev}(ok:v.Ok){j k:Nat}(hj:j < v.m)(hk:k < (v.J j).ne):slotOf ((v.J j).E k)+1 < v.n*4:=by
 have e1:=ok.en j hj k hk
 unfold slotOf
 omega
theorem Placed.step {v:Ev}(ok:v.Ok){vs:Array Value}{j k:Nat}(h:Placed v vs j k)(hj:j < v.m)(hk:k < (v.J j).ne)(hs:vs.size=v.n*4){a:Nat}(ha:a=slotOf ((v.J j).E k)):
 Placed v ((vs.setIfInBounds a (.int .i64 (j:Int))).setIfInBounds (a+1) (.int .i64 (k:Int))) j (k+1):=by
 intro j' q' hj' hq' hc
 have e1:=ok.en j hj k hk
 have e2:=ok.en j' hj' q' hq'
 have hal:a+1 < v.n*4:=by
  rw [ha]
  exact slot_lt ok hj hk
 by_cases e:j'=j∧q'=k
 ·obtain ⟨rfl,rfl⟩:=e
  rw [← ha]
  constructor
  ·simp only [Array.getElem?_setIfInBounds,Array.size_setIfInBounds,show ¬ a+1=a by omega,if_false,if_true,hs]
   rw [if_pos (by omega)]
  ·simp only [Array.getElem?_setIfInBounds,Array.size_setIfInBounds,if_true,hs]
   rw [if_pos (by omega)]
 ·have hne:(v.J j').E q'≠(v.J j).E k:=fun hh=>e (ok.once j' q' j k hj' hq' hj hk hh)
  have hsl:slotOf ((v.J j').E q')≠a∧slotOf ((v.J j').E q')≠a+1∧slotOf ((v.J j').E q')+1≠a:=by
   have h9:¬ (((v.J j').E q').pc=((v.J j).E k).pc∧((v.J j').E q').sd=((v.J j).E k).sd):=fun ⟨a1,a2⟩=>hne (by
    cases h1:(v.J j').E q'
    cases h2:(v.J j).E k
    simp_all)
   rw [ha]
   unfold slotOf
   omega
  obtain ⟨g1,g2⟩:=h j' q' hj' hq' (by omega)
  constructor
  ·simp only [Array.getElem?_setIfInBounds,show ¬ a+1=slotOf ((v.J j').E q') by omega,show ¬ a=slotOf ((v.J j').E q') by omega,if_false]
   exact g1
  ·simp only [Array.getElem?_setIfInBounds,show ¬ a+1=slotOf ((v.J j').E q')+1 by omega,show ¬ a=slotOf ((v.J j').E q')+1 by omega,if_false]
   exact g2
def TkTo (v:Ev)(pa:Option Addr)(pc:Nat)(ja:Option Addr)(jc:Nat)(sa:Option Addr)(sc:Nat)(w:World)(bt sb j k:Nat):Prop:=
 Box w bt 126 #[.slice pa v.n pc,.slice ja v.m jc,.slice sa v.k sc,.slice (some ⟨sb,0,none⟩) v.n v.n]∧∃ vs:Array Value,Box w sb 129 vs∧vs.size=v.n*4∧Placed v vs j k
theorem TkTo.mono {v:Ev}{pa:Option Addr}{pc:Nat}{ja:Option Addr}{jc:Nat}{sa:Option Addr}{sc:Nat}{w w':World}{bt sb j k N:Nat}(h:TkTo v pa pc ja jc sa sc w bt sb j k)(hb:Below N w w')(hN:w.heap.size≤N):TkTo v pa pc ja jc sa sc w' bt sb j k:=by
 obtain ⟨h0,vs,h1,h2⟩:=h
 exact ⟨h0.mono hb hN,vs,h1.mono hb hN,h2⟩
theorem TkTo.at {v:Ev}(ok:v.Ok){pa:Option Addr}{pc:Nat}{ja:Option Addr}{jc:Nat}{sa:Option Addr}{sc:Nat}{w:World}{bt sb:Nat}(h:TkTo v pa pc ja jc sa sc w bt sb v.m 0)(hn:NetIn w v pa ja sa):TkAt w bt v pa pc ja jc sa sc:=by
 obtain ⟨h0,vs,h1,h2,h6⟩:=h
 refine ⟨h0.lt,h0.cell 0,h0.cell 1,h0.cell 2,⟨sb,h1.lt,h0.cell 3,fun q s hq hs=>?_⟩,hn⟩
 obtain ⟨j,k,a1,a2,a3,a4⟩:=ok.stand ⟨(q:Int),(s:Int)⟩ (by show (0:Int)≤(q:Int); omega) (by show (q:Int) < v.n; omega) (by show (s:Int)=0∨(s:Int)=1; omega)
 obtain ⟨g1,g2⟩:=h6 j k a2 a3 (.inl a2)
 rw [a4] at g1 g2
 have hsl:slotOf ⟨(q:Int),(s:Int)⟩=q*4+s*2:=by simp [slotOf]
 rw [hsl] at g1 g2
 have hat:v.at ⟨(q:Int),(s:Int)⟩=(j,k):=by simp [Ev.at,a1]
 rw [hat]
 exact ⟨(h1.cell _).trans g1,(h1.cell _).trans g2⟩
theorem info129:(Tryz.prog.info? 129).map (fun i=>(i.zero,i.size,i.bytes))=some (some (.agg #[.int .i64 0,.int .i64 0,.int .i64 0,.int .i64 0]),4,32):=by kernel_rfl
set_option maxRecDepth 100000 in
set_option maxHeartbeats 8000000 in
theorem trackOf29 {v:Ev}(ok:v.Ok){pa:Option Addr}{pc:Nat}{ja:Option Addr}{jc:Nat}{sa:Option Addr}{sc:Nat}(w:World)(h:NetIn w v pa ja sa):
 Calls Tryz.prog 29 #[.agg #[.slice pa v.n pc,.slice ja v.m jc],.slice sa v.k sc] w fun e w'=>∃ bt,e=.returned (.pointer (some ⟨bt,0,none⟩))∧TkAt w' bt v pa pc ja jc sa sc∧w.heap.size≤bt∧Below w.heap.size w w':=by
 have H:Hid (v.Ok∧NetIn w v pa ja sa):=⟨ok,h⟩
 have hm1:=ok.m1
 have hn1:=ok.n1
 have S0:Hid (Below w.heap.size w (w.alloc (.cells #[.slice pa v.n pc,.slice ja v.m jc] 34))∧Box (w.alloc (.cells #[.slice pa v.n pc,.slice ja v.m jc] 34)) w.heap.size 34 #[.slice pa v.n pc,.slice ja v.m jc]):=⟨bel1 _ _,Box.new _ _ _⟩
 have hmk:=make_rows (P:=Tryz.prog) 124 129 _ 32 4 Tryz.underlying124 info129 v.n (by omega) (by omega)
 clear ok h
 go_enter Tryz.func29,Tryz.ntmps29
 go_upto_region 1 with fail
 generalize (w.alloc (.cells #[.slice pa v.n pc,.slice ja v.m jc] 34))=V0 at S0 ⊢
 have n0:V0.cell? ⟨w.heap.size,0,none⟩=some (.slice pa v.n pc):=S0.out.2.cell 0
 have n1:V0.cell? ⟨w.heap.size,1,none⟩=some (.slice ja v.m jc):=S0.out.2.cell 1
 go_wp2_with fail
 refine wp_region_held_drew (S:=(fun wx:World=>wx.cell? ⟨w.heap.size,0,none⟩=some (.slice pa v.n pc)∧wx.cell? ⟨w.heap.size,1,none⟩=some (.slice ja v.m jc))) (by kernel_rfl) ?_ (fun hHeld=>?_)
 ·exact ⟨n0,n1⟩
 refine tk 0 ?_
 refine tk 1 ?_
 refine tk 2 ?_
 refine tk 3 ?_
 refine tk 4 ?_
 have MS:Hid (Below w.heap.size w (V0.alloc (.cells (mk0 (.agg #[.int .i64 0,.int .i64 0,.int .i64 0,.int .i64 0]) (v.n*4)) 129)).drew∧Box (V0.alloc (.cells (mk0 (.agg #[.int .i64 0,.int .i64 0,.int .i64 0,.int .i64 0]) (v.n*4)) 129)).drew w.heap.size 34 #[.slice pa v.n pc,.slice ja v.m jc]∧Box (V0.alloc (.cells (mk0 (.agg #[.int .i64 0,.int .i64 0,.int .i64 0,.int .i64 0]) (v.n*4)) 129)).drew V0.heap.size 129 (mk0 (.agg #[.int .i64 0,.int .i64 0,.int .i64 0,.int .i64 0]) (v.n*4))∧w.heap.size≤V0.heap.size):=⟨(S0.out.1.alloc S0.out.1.size _).drew,(S0.out.2.alloc _).drew,(Box.new _ _ _).drew,S0.out.1.size⟩
 refine rl 5 fun K hK=>?_
 go_simp
 refine hK.out _ _ ?_ (fun hHeld5=>?_)
 ·exact ⟨MS.out.2.1.cell 0,MS.out.2.1.cell 1⟩
 clear hK K
 generalize V0.heap.size=sb at MS ⊢
 generalize (V0.alloc (.cells (mk0 (.agg #[.int .i64 0,.int .i64 0,.int .i64 0,.int .i64 0]) (v.n*4)) 129)).drew=V1 at MS hHeld5 ⊢
 refine tk 6 ?_
 have MT:Hid (Below w.heap.size w (V1.alloc (.cells #[.slice pa v.n pc,.slice ja v.m jc,.slice sa v.k sc,.slice (some ⟨sb,0,none⟩) v.n v.n] 126))∧Box (V1.alloc (.cells #[.slice pa v.n pc,.slice ja v.m jc,.slice sa v.k sc,.slice (some ⟨sb,0,none⟩) v.n v.n] 126)) w.heap.size 34 #[.slice pa v.n pc,.slice ja v.m jc]∧w.heap.size≤sb∧TkTo v pa pc ja jc sa sc (V1.alloc (.cells #[.slice pa v.n pc,.slice ja v.m jc,.slice sa v.k sc,.slice (some ⟨sb,0,none⟩) v.n v.n] 126)) V1.heap.size sb 0 0):=⟨MS.out.1.alloc MS.out.1.size _,MS.out.2.1.alloc _,MS.out.2.2.2,Box.new _ _ _,(mk0 (.agg #[.int .i64 0,.int .i64 0,.int .i64 0,.int .i64 0]) (v.n*4)),MS.out.2.2.1.alloc _,size_madeCells _ _,fun j' q' _ _ hc=>absurd hc (by omega)⟩
 refine rl 7 fun K hK=>?_
 go_simp
 refine hK.out _ _ ?_ (fun hHeld7=>?_)
 ·exact ⟨MT.out.2.1.cell 0,MT.out.2.1.cell 1⟩
 have HBT:Hid (w.heap.size≤V1.heap.size):=MS.out.1.size
 clear hK K MS n0 n1
 generalize V1.heap.size=bt at MT HBT ⊢
 generalize V1.alloc (.cells #[.slice pa v.n pc,.slice ja v.m jc,.slice sa v.k sc,.slice (some ⟨sb,0,none⟩) v.n v.n] 126)=V2 at MT hHeld7 ⊢
 refine tk 8 ?_
 refine wpAnyH_done (by kernel_rfl) ?_ _
 have n1:V2.cell? ⟨w.heap.size,1,none⟩=some (.slice ja v.m jc):=MT.out.2.1.cell 1
 clear hmk S0
 go_wp2_with fail
 clear n1
 go_loopw [21] (fun i wr=>∃ j:Nat,j≤v.m∧i=.int .i64 j∧Hid (Below w.heap.size w wr∧Box wr w.heap.size 34 #[.slice pa v.n pc,.slice ja v.m jc]∧w.heap.size≤sb∧TkTo v pa pc ja jc sa sc wr bt sb j 0)) (fun i _=>v.m - (intOf i).toNat)
 case atStart=>exact ⟨0,Nat.zero_le _,rfl,MT⟩
 case round=>
  clear MT hHeld hHeld5 hHeld7
  obtain ⟨j,hj,rfl,T⟩:=hrel
  by_cases hlt:j < v.m
  ·obtain ⟨b,off,hje,_,hb,hc⟩:=H.out.2.j (by omega)
   obtain ⟨ea,ec,c0,c1,c2,hE⟩:=hc j hlt
   have HE:Hid (EsAt 0 w ea (v.J j).ne (v.J j).E):=hE
   subst hje
   have T9:Hid (Below w.heap.size w (wr.alloc (.cells #[.int .i64 (v.J j).kd,.string (v.J j).nm,.slice ea (v.J j).ne ec] 115))∧Box (wr.alloc (.cells #[.int .i64 (v.J j).kd,.string (v.J j).nm,.slice ea (v.J j).ne ec] 115)) w.heap.size 34 #[.slice pa v.n pc,.slice (some ⟨b,off,none⟩) v.m jc]∧w.heap.size≤sb∧TkTo v pa pc (some ⟨b,off,none⟩) jc sa sc (wr.alloc (.cells #[.int .i64 (v.J j).kd,.string (v.J j).nm,.slice ea (v.J j).ne ec] 115)) bt sb j 0):=⟨T.out.1.alloc T.out.1.size _,T.out.2.1.alloc _,T.out.2.2.1,T.out.2.2.2.mono (bel1 _ _) lr⟩
   have T9b:Hid (Box (wr.alloc (.cells #[.int .i64 (v.J j).kd,.string (v.J j).nm,.slice ea (v.J j).ne ec] 115)) wr.heap.size 115 #[.int .i64 (v.J j).kd,.string (v.J j).nm,.slice ea (v.J j).ne ec]):=Box.new _ _ _
   have c0:=cell_keep T.out.1 hb c0
   have c1:=cell_keep T.out.1 hb c1
   have c2:=cell_keep T.out.1 hb c2
   have hkd:=H.out.1.kd j hlt
   have hltj:(j:Int) < (v.m:Int):=by omega
   have hj0:(0:Int)≤(j:Int):=by omega
   have m2:(wr.alloc (.cells #[.int .i64 (v.J j).kd,.string (v.J j).nm,.slice ea (v.J j).ne ec] 115)).cell? ⟨wr.heap.size,2,none⟩=some (.slice ea (v.J j).ne ec):=T9b.out.cell 2
   clear hc hE hb T
   go_wp2_with fail
   clear c0 c1 c2 m2 T9b
   generalize wr.alloc (.cells #[.int .i64 (v.J j).kd,.string (v.J j).nm,.slice ea (v.J j).ne ec] 115)=V8 at T9 ⊢
   go_loopw [29] (fun i wr=>∃ k:Nat,k≤(v.J j).ne∧i=.int .i64 k∧Hid (Below w.heap.size w wr∧Box wr w.heap.size 34 #[.slice pa v.n pc,.slice (some ⟨b,off,none⟩) v.m jc]∧w.heap.size≤sb∧TkTo v pa pc (some ⟨b,off,none⟩) jc sa sc wr bt sb j k)) (fun i _=>(v.J j).ne - (intOf i).toNat)
   case atStart=>exact ⟨0,Nat.zero_le _,rfl,T9⟩
   case round=>
    clear T9
    obtain ⟨k,hk,rfl,Tk⟩:=hrel
    by_cases hlk:k < (v.J j).ne
    ·obtain ⟨b2,off2,rfl,_,hb2,hc2⟩:=(HE.out.mono lr Tk.out.1 lr) (by omega)
     obtain ⟨d0,d1⟩:=hc2 k hlk
     obtain ⟨p0,p1,psd⟩:=H.out.1.en j hlt k hlk
     obtain ⟨pN,hpc⟩:∃ pN:Nat,((v.J j).E k).pc=(pN:Int):=⟨((v.J j).E k).pc.toNat,by omega⟩
     rw [hpc] at d0
     have hpl:pN < v.n:=by omega
     have hpi:(pN:Int) < (v.n:Int):=by omega
     have hpi0:(0:Int)≤(pN:Int):=by omega
     have hkl:(k:Int) < ((v.J j).ne:Int):=by omega
     have hk0:(0:Int)≤(k:Int):=by omega
     clear hc2 p0 p1 hb2
     rcases psd with hsd | hsd
     ·have hsl:Hid ((pN*4:Nat)=slotOf ((v.J j).E k)):=by show _=_; simp [slotOf,hpc,hsd]
      have d1':wr.cell? ⟨b2,off2+k*2+1,none⟩=some (.int .i64 0):=by rw [d1,hsd]
      have T9:Hid ((Below w.heap.size w (wr.alloc (.cells #[.int .i64 (pN:Int),.int .i64 0] 112))∧Box (wr.alloc (.cells #[.int .i64 (pN:Int),.int .i64 0] 112)) w.heap.size 34 #[.slice pa v.n pc,.slice (some ⟨b,off,none⟩) v.m jc]∧w.heap.size≤sb∧TkTo v pa pc (some ⟨b,off,none⟩) jc sa sc (wr.alloc (.cells #[.int .i64 (pN:Int),.int .i64 0] 112)) bt sb j k)∧Box (wr.alloc (.cells #[.int .i64 (pN:Int),.int .i64 0] 112)) wr.heap.size 112 #[.int .i64 (pN:Int),.int .i64 0]):=⟨⟨Tk.out.1.alloc Tk.out.1.size _,Tk.out.2.1.alloc _,Tk.out.2.2.1,Tk.out.2.2.2.mono (bel1 _ _) lr⟩,Box.new _ _ _⟩
      clear d1 hsd Tk
      go_upto_region 8 with fail
      clear d0 d1'
      generalize wr.alloc (.cells #[.int .i64 (pN:Int),.int .i64 0] 112)=V9 at T9 ⊢
      generalize wr.heap.size=eq at T9 ⊢
      obtain ⟨vs,g1,g2,g3⟩:=T9.out.1.2.2.2.2
      have HPL:Hid (Placed v ((vs.setIfInBounds (pN*4) (.int .i64 (j:Int))).setIfInBounds (pN*4+1) (.int .i64 (k:Int))) j (k+1)):=g3.step H.out.1 hlt hlk g2 hsl.out
      have x0:V9.cell? ⟨sb,pN*4,none⟩=some (vs[pN*4]'(by omega)):=(g1.cell _).trans (Array.getElem?_eq_getElem _)
      have x1:V9.cell? ⟨sb,pN*4+1,none⟩=some (vs[pN*4+1]'(by omega)):=(g1.cell _).trans (Array.getElem?_eq_getElem _)
      have y0:=g1.free (pN*4)
      have y1:=g1.free (pN*4+1)
      generalize vs[pN*4]'(by omega)=u0 at x0
      generalize vs[pN*4+1]'(by omega)=u1 at x1
      have e1:w.heap.size≠sb:=box_ne T9.out.1.2.1 g1 (by decide)
      have e2:bt≠sb:=box_ne T9.out.1.2.2.2.1 g1 (by decide)
      have e3:eq≠sb:=box_ne T9.out.2 g1 (by decide)
      have HSB:Hid (w.heap.size≤sb):=T9.out.1.2.2.1
      have TN:Hid ((Below w.heap.size w ((V9.setCell ⟨sb,pN*4,none⟩ (.int .i64 (j:Int))).setCell ⟨sb,pN*4+1,none⟩ (.int .i64 (k:Int))).drew∧Box ((V9.setCell ⟨sb,pN*4,none⟩ (.int .i64 (j:Int))).setCell ⟨sb,pN*4+1,none⟩ (.int .i64 (k:Int))).drew w.heap.size 34 #[.slice pa v.n pc,.slice (some ⟨b,off,none⟩) v.m jc]∧w.heap.size≤sb∧TkTo v pa pc (some ⟨b,off,none⟩) jc sa sc ((V9.setCell ⟨sb,pN*4,none⟩ (.int .i64 (j:Int))).setCell ⟨sb,pN*4+1,none⟩ (.int .i64 (k:Int))).drew bt sb j (k+1))∧Box ((V9.setCell ⟨sb,pN*4,none⟩ (.int .i64 (j:Int))).setCell ⟨sb,pN*4+1,none⟩ (.int .i64 (k:Int))).drew eq 112 #[.int .i64 (pN:Int),.int .i64 0]):=⟨⟨((T9.out.1.1.setCell HSB.out _).setCell HSB.out _).drew,((T9.out.1.2.1.other e1 _).other e1 _).drew,HSB.out,((T9.out.1.2.2.2.1.other e2 _).other e2 _).drew,_,((g1.set _ _).set _ _).drew,by simp [g2],HPL.out⟩,((T9.out.2.other e3 _).other e3 _).drew⟩
      have f3:V9.cell? ⟨bt,3,none⟩=some (.slice (some ⟨sb,0,none⟩) v.n v.n):=T9.out.1.2.2.2.1.cell 3
      have q0:V9.cell? ⟨eq,0,none⟩=some (.int .i64 (pN:Int)):=T9.out.2.cell 0
      have q1:V9.cell? ⟨eq,1,none⟩=some (.int .i64 0):=T9.out.2.cell 1
      clear g1 g2 g3 HPL hsl T9 e1 e2 e3
      go_wp2_with fail
      refine wp_region_held_drew (S:=(fun wx:World=>wx.cell? ⟨bt,3,none⟩=some (.slice (some ⟨sb,0,none⟩) v.n v.n)∧wx.cell? ⟨eq,0,none⟩=some (.int .i64 (pN:Int))∧wx.cell? ⟨eq,1,none⟩=some (.int .i64 0))) (by kernel_rfl) ?_ (fun hHeld=>?_)
      ·exact ⟨f3,q0,q1⟩
      refine tk 0 ?_
      refine tk 1 ?_
      refine tk 2 ?_
      refine tk 3 ?_
      refine tk 4 ?_
      refine tk 5 ?_
      refine tk 6 ?_
      refine tk 7 ?_
      refine tk 8 ?_
      refine tk 9 ?_
      refine tk 10 ?_
      refine tk 11 ?_
      refine tk 12 ?_
      refine rl 13 fun K hK=>?_
      go_simp
      refine hK.out _ _ ?_ (fun hHeld13=>?_)
      ·exact ⟨TN.out.1.2.2.2.1.cell 3,TN.out.2.cell 0,TN.out.2.cell 1⟩
      clear hK K
      refine wpAnyH_done (by kernel_rfl) ?_ _
      clear f3 q0 q1 x0 x1 y0 y1
      go_wp2_with fail
      go_roundw
      case rel=>exact ⟨k+1,by omega,by go_num,TN.out.1⟩
      case measure=>simp [intOf]; omega
     ·have hsl:Hid ((pN*4+2:Nat)=slotOf ((v.J j).E k)):=by show _=_; simp [slotOf,hpc,hsd]
      have d1':wr.cell? ⟨b2,off2+k*2+1,none⟩=some (.int .i64 1):=by rw [d1,hsd]
      have T9:Hid ((Below w.heap.size w (wr.alloc (.cells #[.int .i64 (pN:Int),.int .i64 1] 112))∧Box (wr.alloc (.cells #[.int .i64 (pN:Int),.int .i64 1] 112)) w.heap.size 34 #[.slice pa v.n pc,.slice (some ⟨b,off,none⟩) v.m jc]∧w.heap.size≤sb∧TkTo v pa pc (some ⟨b,off,none⟩) jc sa sc (wr.alloc (.cells #[.int .i64 (pN:Int),.int .i64 1] 112)) bt sb j k)∧Box (wr.alloc (.cells #[.int .i64 (pN:Int),.int .i64 1] 112)) wr.heap.size 112 #[.int .i64 (pN:Int),.int .i64 1]):=⟨⟨Tk.out.1.alloc Tk.out.1.size _,Tk.out.2.1.alloc _,Tk.out.2.2.1,Tk.out.2.2.2.mono (bel1 _ _) lr⟩,Box.new _ _ _⟩
      clear d1 hsd Tk
      go_upto_region 8 with fail
      clear d0 d1'
      generalize wr.alloc (.cells #[.int .i64 (pN:Int),.int .i64 1] 112)=V9 at T9 ⊢
      generalize wr.heap.size=eq at T9 ⊢
      obtain ⟨vs,g1,g2,g3⟩:=T9.out.1.2.2.2.2
      have HPL:Hid (Placed v ((vs.setIfInBounds (pN*4+2) (.int .i64 (j:Int))).setIfInBounds (pN*4+2+1) (.int .i64 (k:Int))) j (k+1)):=g3.step H.out.1 hlt hlk g2 hsl.out
      have x0:V9.cell? ⟨sb,pN*4+2,none⟩=some (vs[pN*4+2]'(by omega)):=(g1.cell _).trans (Array.getElem?_eq_getElem _)
      have x1:V9.cell? ⟨sb,pN*4+2+1,none⟩=some (vs[pN*4+2+1]'(by omega)):=(g1.cell _).trans (Array.getElem?_eq_getElem _)
      have y0:=g1.free (pN*4+2)
      have y1:=g1.free (pN*4+2+1)
      generalize vs[pN*4+2]'(by omega)=u0 at x0
      generalize vs[pN*4+2+1]'(by omega)=u1 at x1
      have e1:w.heap.size≠sb:=box_ne T9.out.1.2.1 g1 (by decide)
      have e2:bt≠sb:=box_ne T9.out.1.2.2.2.1 g1 (by decide)
      have e3:eq≠sb:=box_ne T9.out.2 g1 (by decide)
      have HSB:Hid (w.heap.size≤sb):=T9.out.1.2.2.1
      have TN:Hid ((Below w.heap.size w ((V9.setCell ⟨sb,pN*4+2,none⟩ (.int .i64 (j:Int))).setCell ⟨sb,pN*4+2+1,none⟩ (.int .i64 (k:Int))).drew∧Box ((V9.setCell ⟨sb,pN*4+2,none⟩ (.int .i64 (j:Int))).setCell ⟨sb,pN*4+2+1,none⟩ (.int .i64 (k:Int))).drew w.heap.size 34 #[.slice pa v.n pc,.slice (some ⟨b,off,none⟩) v.m jc]∧w.heap.size≤sb∧TkTo v pa pc (some ⟨b,off,none⟩) jc sa sc ((V9.setCell ⟨sb,pN*4+2,none⟩ (.int .i64 (j:Int))).setCell ⟨sb,pN*4+2+1,none⟩ (.int .i64 (k:Int))).drew bt sb j (k+1))∧Box ((V9.setCell ⟨sb,pN*4+2,none⟩ (.int .i64 (j:Int))).setCell ⟨sb,pN*4+2+1,none⟩ (.int .i64 (k:Int))).drew eq 112 #[.int .i64 (pN:Int),.int .i64 1]):=⟨⟨((T9.out.1.1.setCell HSB.out _).setCell HSB.out _).drew,((T9.out.1.2.1.other e1 _).other e1 _).drew,HSB.out,((T9.out.1.2.2.2.1.other e2 _).other e2 _).drew,_,((g1.set _ _).set _ _).drew,by simp [g2],HPL.out⟩,((T9.out.2.other e3 _).other e3 _).drew⟩
      have f3:V9.cell? ⟨bt,3,none⟩=some (.slice (some ⟨sb,0,none⟩) v.n v.n):=T9.out.1.2.2.2.1.cell 3
      have q0:V9.cell? ⟨eq,0,none⟩=some (.int .i64 (pN:Int)):=T9.out.2.cell 0
      have q1:V9.cell? ⟨eq,1,none⟩=some (.int .i64 1):=T9.out.2.cell 1
      clear g1 g2 g3 HPL hsl T9 e1 e2 e3
      go_wp2_with fail
      refine wp_region_held_drew (S:=(fun wx:World=>wx.cell? ⟨bt,3,none⟩=some (.slice (some ⟨sb,0,none⟩) v.n v.n)∧wx.cell? ⟨eq,0,none⟩=some (.int .i64 (pN:Int))∧wx.cell? ⟨eq,1,none⟩=some (.int .i64 1))) (by kernel_rfl) ?_ (fun hHeld=>?_)
      ·exact ⟨f3,q0,q1⟩
      refine tk 0 ?_
      refine tk 1 ?_
      refine tk 2 ?_
      refine tk 3 ?_
      refine tk 4 ?_
      refine tk 5 ?_
      refine tk 6 ?_
      refine tk 7 ?_
      refine tk 8 ?_
      refine tk 9 ?_
      refine tk 10 ?_
      refine tk 11 ?_
      refine tk 12 ?_
      refine rl 13 fun K hK=>?_
      go_simp
      refine hK.out _ _ ?_ (fun hHeld13=>?_)
      ·exact ⟨TN.out.1.2.2.2.1.cell 3,TN.out.2.cell 0,TN.out.2.cell 1⟩
      clear hK K
      refine wpAnyH_done (by kernel_rfl) ?_ _
      clear f3 q0 q1 x0 x1 y0 y1
      go_wp2_with fail
      go_roundw
      case rel=>exact ⟨k+1,by omega,by go_num,TN.out.1⟩
      case measure=>simp [intOf]; omega
    ·have hkk:k=(v.J j).ne:=by omega
     have hge:¬ ((k:Int) < ((v.J j).ne:Int)):=by omega
     have TX:Hid (Below w.heap.size w wr∧Box wr w.heap.size 34 #[.slice pa v.n pc,.slice (some ⟨b,off,none⟩) v.m jc]∧w.heap.size≤sb∧TkTo v pa pc (some ⟨b,off,none⟩) jc sa sc wr bt sb (j+1) 0):=by
      obtain ⟨h1,h2,h3,h4,vs,h5,h6,h7⟩:=Tk.out
      refine ⟨h1,h2,h3,h4,vs,h5,h6,fun j' q' hj' hq' hc=>h7 j' q' hj' hq' ?_⟩
      by_cases c:j' < j
      ·exact Or.inl c
      ·have c2:j'=j:=by omega
       subst c2
       exact Or.inr ⟨rfl,by omega⟩
     go_wp2_with fail
     go_roundw
     case rel=>exact ⟨j+1,by omega,by go_num,TX⟩
     case measure=>simp [intOf]; omega
  ·have hkk:j=v.m:=by omega
   have hge:¬ ((j:Int) < (v.m:Int)):=by omega
   have HF:Hid ((TkAt wr bt v pa pc ja jc sa sc∧w.heap.size≤sb)∧Below w.heap.size w wr):=⟨⟨TkTo.at H.out.1 (by have:=T.out.2.2.2; rwa [hkk] at this) (H.out.2.mono T.out.1 lr),T.out.2.2.1⟩,T.out.1⟩
   go_wp2_with fail
   go_ret
   exact ⟨bt,rfl,HF.out.1.1,HBT.out,HF.out.2⟩
end Go.Proofs.YtkhaehpobpkkiaaGreat
