import Derived.Deep.RegionLaw
import Derived.BigQuiet
import Derived.Deep.CutRange
import Derived.Test.YtkhaehpobpkkiaaGreatNb
namespace Go.Proofs.YtkhaehpobpkkiaaGreat
open Go.RowKit
set_option maxRecDepth 100000 in
set_option maxHeartbeats 8000000 in
theorem flank0 {v:Ev}(ok:v.Ok){w0:World}{pa:Option Addr}{pc:Nat}{ja:Option Addr}{jc:Nat}{sa:Option Addr}{sc:Nat}(hN:NetIn w0 v pa ja sa){bf br:Nat}{out:Value}{tries:Int}{li:List Rw}(hli:li.length≤1048576){atj:Int}{a0 a1 a2 lv a4 a5 a6:Value}
 (hbf:w0.heap.size≤bf) (hbr:w0.heap.size≤br) (hne:bf≠br) {f:Nat} (ih:FlankC v w0 pa pc ja jc sa sc bf br out tries li atj a0 a1 a2 lv a4 a5 a6 f)
 (seen fv:Value) (sl fl:List Rw) (epc:Int) (w:World) (he:EnOk v ⟨epc,0⟩) (hB:Below w0.heap.size w0 w) (hb:Box w bf 55 (fBox v pa pc ja jc sa sc out tries seen)) (hs:Own w0.heap.size 112 2 w seen sl)
 (hr:Box w br 64 #[a0,a1,a2,lv,a4,a5,a6,fv]) (hl:Own w0.heap.size 136 2 w lv li) (hf:Own w0.heap.size 155 4 w fv fl) (hso:Once 0 1 v.n sl) (hfu:2*v.n+1≤f+1+sl.length) (hfl:fl.length+(2*v.n+1-sl.length)≤1048576):
 Calls Tryz.prog 87 #[.pointer (some ⟨bf,0,none⟩),.pointer (some ⟨br,0,none⟩),.int .i64 atj,.agg #[.int .i64 epc,.int .i64 0]] w (FlankP v w0 pa pc ja jc sa sc bf br out tries li atj a0 a1 a2 lv a4 a5 a6 (f+1) seen fv sl fl ⟨epc,0⟩ w):=by
 obtain ⟨as',cs',hv⟩:=hs.val
 subst hv
 obtain ⟨af,cf,hv⟩:=hf.val
 subst hv
 obtain ⟨al,cl,hv⟩:=hl.val
 subst hv
 obtain ⟨as2,cs2,hv,hNs⟩:=hs.ls.val
 simp only [Value.slice.injEq] at hv
 obtain ⟨rfl,_,rfl⟩:=hv
 obtain ⟨i5,e51,e52,e53,e54⟩:=info_parts infoEnd
 obtain ⟨i6,e61,e62,e63,e64⟩:=info_parts infoFlank
 have hsl:=hso.len
 have hn1:=ok.n1
 have hm1:=ok.m1
 have hk1:=ok.k1
 have he1:0≤epc:=he.1
 have he2:epc<v.n:=he.2.1
 have f0:w.cell? ⟨bf,0,none⟩=some (.slice pa v.n pc):=hb.cell 0
 have f6:w.cell? ⟨bf,6,none⟩=some (.slice as' sl.length cs'):=hb.cell 6
 have hbl:=hb.lt
 have hrl:=hr.lt
 have HB:Hid (Below w0.heap.size w0 w):=hB
 have HBx:Hid (Box w bf 55 (fBox v pa pc ja jc sa sc out tries (.slice as' sl.length cs'))):=hb
 have HS:Hid (Own w0.heap.size 112 2 w (.slice as' sl.length cs') sl):=hs
 have HR:Hid (Box w br 64 #[a0,a1,a2,.slice al li.length cl,a4,a5,a6,.slice af fl.length cf]):=hr
 have HL:Hid (Own w0.heap.size 136 2 w (.slice al li.length cl) li):=hl
 have HF:Hid (Own w0.heap.size 155 4 w (.slice af fl.length cf) fl):=hf
 have HN:Hid (NetIn w0 v pa ja sa):=hN
 have OK:Hid v.Ok:=ok
 have HSO:Hid (Once 0 1 v.n sl):=hso
 have HE:Hid (EnOk v ⟨epc,0⟩):=he
 have IH:Hid (FlankC v w0 pa pc ja jc sa sc bf br out tries li atj a0 a1 a2 (.slice al li.length cl) a4 a5 a6 f):=ih
 have hws:=hB.size
 have hw0:w0.heap.size≤w.heap.size:=hB.size
 clear hB hb hs hr hl hf hN ok hso he ih
 go_enter Tryz.func87,Tryz.ntmps87
 go_wp2_with fail
 go_loopw [25] (fun i wr=>∃ k:Nat,k≤sl.length∧i=.int .i64 k∧Hid (∀ i,i<k→¬(fnL sl i 0=epc∧fnL sl i 1=0))∧Below (w.heap.size+1) (w.alloc (.cells #[.int .i64 epc,.int .i64 0] 112)) wr) (fun i _=>sl.length-(intOf i).toNat)
 case atStart=>exact ⟨0,Nat.zero_le _,rfl,fun i hi=>absurd hi (Nat.not_lt_zero _),Below.refl _ _⟩
 case round=>
  obtain ⟨k,hk,rfl,hall,hbel⟩:=hrel
  have hB1:Below w.heap.size w wr:=(bel1 w _).trans (hbel.mono (by omega))
  have zs:w.heap.size+1≤wr.heap.size:=by have:=hbel.size;simpa using this
  have ex:Box wr w.heap.size 112 #[.int .i64 epc,.int .i64 0]:=(Box.new w 112 _).keep (hbel.block w.heap.size (by omega))
  have y0:wr.cell? ⟨w.heap.size,0,none⟩=some (.int .i64 epc):=ex.cell 0
  have y1:wr.cell? ⟨w.heap.size,1,none⟩=some (.int .i64 0):=ex.cell 1
  by_cases hlt:k<sl.length
  ·obtain ⟨b,off,rfl,_,hb,hc⟩:=(hNs.mono zl hB1 lr) (by omega)
   have c0:wr.cell? ⟨b,off+k*2,none⟩=some (.int .i64 (fnL sl k 0)):=hc k hlt 0 (by omega)
   have c1:wr.cell? ⟨b,off+k*2+1,none⟩=some (.int .i64 (fnL sl k 1)):=hc k hlt 1 (by omega)
   clear hc
   have hz3:w.heap.size<wr.heap.size:=by omega
   by_cases h1:fnL sl k 0=epc
   ·by_cases h2:fnL sl k 1=0
    ·have Hm:Hid ([epc,0] ∈ sl):=row_mem HS.out.1 hlt h1 h2
     rw [h1] at c0
     rw [h2] at c1
     clear hall h1 h2
     go_wp2_with fail
     have D:=hB1.alloc hB1.size (.cells #[.int .i64 epc,.int .i64 0] 112)
     refine bodyPost_ret (results_none rfl _ _ _) rfl ?_
     exact flankP_in Hm.out HB.out HBx.out HS.out HR.out HL.out HF.out D
    ·have Hv:Hid (∀ i,i<k+1→¬(fnL sl i 0=epc∧fnL sl i 1=0)):=by
      intro i hi
      by_cases e:i=k
      ·subst e;exact fun h=>h2 h.2
      ·exact hall.out i (by omega)
     clear hall
     go_wp2_with fail
     go_roundw
     case rel=>exact ⟨k+1,by omega,by go_num,Hv,hbel.alloc (by omega) _⟩
     case measure=>simp [intOf];omega
   ·have Hv:Hid (∀ i,i<k+1→¬(fnL sl i 0=epc∧fnL sl i 1=0)):=by
     intro i hi
     by_cases e:i=k
     ·subst e;exact fun h=>h1 h.1
     ·exact hall.out i (by omega)
    clear hall
    go_wp2_with fail
    go_roundw
    case rel=>exact ⟨k+1,by omega,by go_num,Hv,hbel.alloc (by omega) _⟩
    case measure=>simp [intOf];omega
  ·obtain rfl:k=sl.length:=by omega
   have Hm:Hid ([epc,0] ∉ sl):=row_not hall.out
   have g6:wr.cell? ⟨bf,6,none⟩=some (.slice as' sl.length cs'):=(hB1.cell (p:=⟨bf,6,none⟩) hbl).trans f6
   clear hall
   go_wp2_with fail
   have HS1:Hid (Own w0.heap.size 112 2 wr (.slice as' sl.length cs') sl):=HS.out.mono lr hB1 lr
   have HX1:Hid (Box wr bf 55 (fBox v pa pc ja jc sa sc out tries (.slice as' sl.length cs'))):=HBx.out.mono hB1 lr
   have hEX:Hid (Box wr w.heap.size 112 #[.int .i64 epc,.int .i64 0]):=ex
   clear ex
   have g6':∀ o,(wr.alloc o).cell? ⟨bf,6,none⟩=some (.slice as' sl.length cs'):=fun o=>(HX1.out.alloc o).cell 6
   go_cut [] from 20 (fun wx=>∃ a1' c1',Hid (FlS v w0 pa pc ja jc sa sc bf br out tries li a0 a1 a2 (.slice al li.length cl) a4 a5 a6 (.slice af fl.length cf) fl w epc 0 (.slice as' sl.length cs') (sl ++ [[epc,0]]) (.slice a1' (sl.length+1) c1') wx))
   case first=>
    go_region_law (refine step_app rfl (.tmp 37) (.tmp 39) 53 rfl w0.heap.size 112 i5 (.agg #[.int .i64 0,.int .i64 0]) 2 16 Tryz.underlying53 e51 e52 e53 e54 rfl (by decide) (.slice as' sl.length cs') sl (by simp [Act.eval]) (HS1.out.alloc _).drew ⟨wr.heap.size,0,none⟩ 1 1 [[epc,0]] (by simp [Act.eval]) rfl (by decide) (Wide.one rfl) (news_drew [epc,0] rfl) (by simp [maxLen];omega) (by omega) (by simp;omega) ?_;intro v1 w1 ho1 hs1 hap;have q1:Box w1 bf 55 (fBox v pa pc ja jc sa sc out tries (.slice as' sl.length cs')):=(HX1.out.alloc _).drew.grown hap.fr (fun e=>HS1.out.off HX1.out (by decide) e rfl);have t1:=q1.free 6;have u1:w1.cell? ⟨bf,6,none⟩=some (.slice as' sl.length cs'):=q1.cell 6;obtain ⟨a1',c1',rfl⟩:=ho1.val;rw [List.length_append] at ho1 hap)
    all_goals
     go_wp2_with fail
     go_meet
     case rel=>exact ⟨_,_,fls_mk HB.out HBx.out HS.out HR.out HL.out HF.out hbf hne hB1 hEX.out ho1 hap⟩
   case rest=>
    obtain ⟨a1',c1',FSx⟩:=hcut
    clear HS1 HX1 hEX g6' g6 y0 y1 hbel hB1 zs
    have hd0:=FSx.out.bel.size
    have m0:wc.cell? ⟨bf,0,none⟩=some (.slice pa v.n pc):=FSx.out.bx.cell 0
    have m1:wc.cell? ⟨bf,1,none⟩=some (.slice ja v.m jc):=FSx.out.bx.cell 1
    have m2:wc.cell? ⟨bf,2,none⟩=some (.slice sa v.k sc):=FSx.out.bx.cell 2
    have n0:wc.cell? ⟨w.heap.size,0,none⟩=some (.int .i64 epc):=FSx.out.eb.cell 0
    have n1:wc.cell? ⟨w.heap.size,1,none⟩=some (.int .i64 0):=FSx.out.eb.cell 1
    have zc:w.heap.size<wc.heap.size:=FSx.out.eb.lt
    have zb:bf<wc.heap.size:=FSx.out.bx.lt
    obtain ⟨ep,hep⟩:∃ ep:Nat,epc=(ep:Int):=⟨epc.toNat,by omega⟩
    subst hep
    have hpn:ep<v.n:=by omega
    have hln:=OK.out.ln ep hpn
    have Hsp:Hid (∀ i,i<v.k→0≤(v.S i).sp∧(v.S i).sp≤10000000):=fun i hi=>by
     obtain ⟨s1,s2,s3,s4,s5⟩:=OK.out.sg i hi
     have:=OK.out.ln (v.S i).ln.toNat (by omega)
     omega
    go_wp2_with fail
    go_loopw [11,51] (fun bst i wr=>∃ q:Nat,q≤v.k∧i=.int .i64 q∧bst=.int .i64 (bestV (lastS (v.P ep).ln v.S ep (-1) q))∧Below wc.heap.size wc wr) (fun _ i _=>v.k-(intOf i).toNat)
    case atStart=>exact ⟨0,Nat.zero_le _,rfl,rfl,Below.refl _ _⟩
    case round=>
     obtain ⟨q,hq,rfl,rfl,hbel⟩:=hrel
     have hBw:Below w0.heap.size w0 wr:=FSx.out.bel.trans (hbel.mono hd0)
     have zr:=hbel.size
     by_cases hlq:q<v.k
     ·obtain ⟨b,off,hsa,_,hb,hc⟩:=(HN.out.s.mono lr hBw lr) (by omega)
      obtain ⟨d0,d1,d2,d3⟩:=hc q hlq
      have Hc:Hid (∀ i,i<v.k→wr.cell? ⟨b,off+i*4+2,none⟩=some (.int .i64 (v.S i).sp)):=fun i hi=>(hc i hi).2.2.1
      subst hsa
      have y0:wr.cell? ⟨w.heap.size,0,none⟩=some (.int .i64 ep):=(hbel.cell (p:=⟨w.heap.size,0,none⟩) zc).trans n0
      have b0:wr.cell? ⟨bf,0,none⟩=some (.slice pa v.n pc):=(hbel.cell (p:=⟨bf,0,none⟩) zb).trans m0
      have b1:wr.cell? ⟨bf,1,none⟩=some (.slice ja v.m jc):=(hbel.cell (p:=⟨bf,1,none⟩) zb).trans m1
      have b2:wr.cell? ⟨bf,2,none⟩=some (.slice (some ⟨b,off,none⟩) v.k sc):=(hbel.cell (p:=⟨bf,2,none⟩) zb).trans m2
      have hBa:=hbel.alloc hbel.size (.cells #[.string (v.S q).nm,.int .i64 (v.S q).ln,.int .i64 (v.S q).sp,.int .i64 (v.S q).br] 56)
      have hlk:lastS (v.P ep).ln v.S ep (-1) (q+1)=if (v.S q).ln=ep∧(v.S q).br=(-1) then pickL (v.P ep).ln v.S (-1) q (lastS (v.P ep).ln v.S ep (-1) q) else lastS (v.P ep).ln v.S ep (-1) q:=rfl
      have hlt0:=fun c=>@lastS_lt (v.P ep).ln v.S ep (-1) q c
      have hz1:w.heap.size<wr.heap.size:=by omega
      have hz2:bf<wr.heap.size:=by omega
      clear hc
      generalize lastS (v.P ep).ln v.S ep (-1) q=o at *
      by_cases h1:(v.S q).ln=(ep:Int)
      ·by_cases h2:(v.S q).br=(-1)
       ·have HL1:Hid (lastS (v.P ep).ln v.S ep (-1) (q+1)=pickL (v.P ep).ln v.S (-1) q o):=by
         show lastS (v.P ep).ln v.S ep (-1) (q+1)=_
         rw [hlk,if_pos ⟨h1,h2⟩]
        have HLt:Hid (∀ c,o=some c→c<q):=hlt0
        have h1':((v.S q).ln == (ep:Int))=true:=by simp [h1]
        have h2':((v.S q).br == (-1))=true:=by simp [h2]
        clear hlk hlt0 h1 h2
        rcases o with _ | bb
        ·rw [show bestV none=-1 from rfl]
         go_wp2_with fail
         go_quiet (fail)
         go_wp2_with fail
         go_roundw
         case rel=>exact ⟨q+1,by omega,by go_num,by rw [HL1.out];rfl,below_drewN hBa _⟩
         case measure=>simp [intOf];omega
        ·have hbq:=HLt.out bb rfl
         have hc2:=Hc.out bb (by omega)
         have hspb:=Hsp.out bb (by omega)
         have hspq:=Hsp.out q hlq
         have hb0':decide ((bb:Int)<0)=false:=by simp
         have hb00:(0:Int)≤(bb:Int):=by omega
         have hbk:(bb:Int)<(v.k:Int):=by omega
         rw [show bestV (some bb)=(bb:Int) from rfl]
         have HL2:Hid (lastS (v.P ep).ln v.S ep (-1) (q+1)=if farI (v.P ep).ln (v.S q).sp (-1) > farI (v.P ep).ln (v.S bb).sp (-1) then some q else some bb):=HL1.out
         have X0:(wr.alloc (.cells #[.string (v.S q).nm,.int .i64 (v.S q).ln,.int .i64 (v.S q).sp,.int .i64 (v.S q).br] 56)).cell? ⟨w.heap.size,0,none⟩=some (.int .i64 ep):=by rw [World.cell?_alloc_past _ _ _ hz1];exact y0
         have X1:(wr.alloc (.cells #[.string (v.S q).nm,.int .i64 (v.S q).ln,.int .i64 (v.S q).sp,.int .i64 (v.S q).br] 56)).cell? ⟨bf,0,none⟩=some (.slice pa v.n pc):=by rw [World.cell?_alloc_past _ _ _ hz2];exact b0
         have X2:(wr.alloc (.cells #[.string (v.S q).nm,.int .i64 (v.S q).ln,.int .i64 (v.S q).sp,.int .i64 (v.S q).br] 56)).cell? ⟨bf,1,none⟩=some (.slice ja v.m jc):=by rw [World.cell?_alloc_past _ _ _ hz2];exact b1
         have X3:(wr.alloc (.cells #[.string (v.S q).nm,.int .i64 (v.S q).ln,.int .i64 (v.S q).sp,.int .i64 (v.S q).br] 56)).cell? ⟨bf,2,none⟩=some (.slice (some ⟨b,off,none⟩) v.k sc):=by rw [World.cell?_alloc_past _ _ _ hz2];exact b2
         have X4:(wr.alloc (.cells #[.string (v.S q).nm,.int .i64 (v.S q).ln,.int .i64 (v.S q).sp,.int .i64 (v.S q).br] 56)).cell? ⟨b,off+bb*4+2,none⟩=some (.int .i64 (v.S bb).sp):=by rw [World.cell?_alloc_past _ _ _ hb];exact hc2
         have X5:(wr.alloc (.cells #[.string (v.S q).nm,.int .i64 (v.S q).ln,.int .i64 (v.S q).sp,.int .i64 (v.S q).br] 56)).cell? ⟨wr.heap.size,1,none⟩=some (.int .i64 (v.S q).ln):=(Box.new wr 56 _).cell 1
         have X6:(wr.alloc (.cells #[.string (v.S q).nm,.int .i64 (v.S q).ln,.int .i64 (v.S q).sp,.int .i64 (v.S q).br] 56)).cell? ⟨wr.heap.size,2,none⟩=some (.int .i64 (v.S q).sp):=(Box.new wr 56 _).cell 2
         have X7:(wr.alloc (.cells #[.string (v.S q).nm,.int .i64 (v.S q).ln,.int .i64 (v.S q).sp,.int .i64 (v.S q).br] 56)).cell? ⟨wr.heap.size,3,none⟩=some (.int .i64 (v.S q).br):=(Box.new wr 56 _).cell 3
         have hBa0:Below w0.heap.size w0 (wr.alloc (.cells #[.string (v.S q).nm,.int .i64 (v.S q).ln,.int .i64 (v.S q).sp,.int .i64 (v.S q).br] 56)):=hBw.alloc hBw.size _
         have hP5:PsAt 0 (wr.alloc (.cells #[.string (v.S q).nm,.int .i64 (v.S q).ln,.int .i64 (v.S q).sp,.int .i64 (v.S q).br] 56)).drew pa v.n v.P:=HN.out.p.mono lr hBa0.drew lr
         have T0:w.heap.size<(wr.alloc (.cells #[.string (v.S q).nm,.int .i64 (v.S q).ln,.int .i64 (v.S q).sp,.int .i64 (v.S q).br] 56)).heap.size:=by simp;omega
         have T1:bf<(wr.alloc (.cells #[.string (v.S q).nm,.int .i64 (v.S q).ln,.int .i64 (v.S q).sp,.int .i64 (v.S q).br] 56)).heap.size:=by simp;omega
         have T2:b<(wr.alloc (.cells #[.string (v.S q).nm,.int .i64 (v.S q).ln,.int .i64 (v.S q).sp,.int .i64 (v.S q).br] 56)).heap.size:=by simp;omega
         have T3:wr.heap.size<(wr.alloc (.cells #[.string (v.S q).nm,.int .i64 (v.S q).ln,.int .i64 (v.S q).sp,.int .i64 (v.S q).br] 56)).heap.size:=by simp
         go_wp2_with fail
         generalize wr.alloc (.cells #[.string (v.S q).nm,.int .i64 (v.S q).ln,.int .i64 (v.S q).sp,.int .i64 (v.S q).br] 56)=wa at *
         clear Hc Hsp HLt y0 b0 b1 b2 hc2 d0 d1 d2 d3
         go_region_held3 (fun w'=>w'.cell? ⟨w.heap.size,0,none⟩=some (.int .i64 ep)∧w'.cell? ⟨bf,0,none⟩=some (.slice pa v.n pc)∧w'.cell? ⟨bf,1,none⟩=some (.slice ja v.m jc)∧w'.cell? ⟨bf,2,none⟩=some (.slice (some ⟨b,off,none⟩) v.k sc)∧w'.cell? ⟨b,off+bb*4+2,none⟩=some (.int .i64 (v.S bb).sp)∧w'.cell? ⟨wr.heap.size,1,none⟩=some (.int .i64 (v.S q).ln)∧w'.cell? ⟨wr.heap.size,2,none⟩=some (.int .i64 (v.S q).sp)∧w'.cell? ⟨wr.heap.size,3,none⟩=some (.int .i64 (v.S q).br)) (go_keep) (first | (go_at_call_of 23 (v.S q).sp;refine (l12far47 pa v.n pc v.P ja v.m jc ep (v.S q).sp (-1) _ (by omega) hpn hP5 hln hspq).mono ?_;rintro e w7 ⟨rfl,hb7⟩;have k0:=(hb7.cell (p:=⟨w.heap.size,0,none⟩) T0).trans X0;have k1:=(hb7.cell (p:=⟨bf,0,none⟩) T1).trans X1;have k2:=(hb7.cell (p:=⟨bf,1,none⟩) T1).trans X2;have k3:=(hb7.cell (p:=⟨bf,2,none⟩) T1).trans X3;have k4:=(hb7.cell (p:=⟨b,off+bb*4+2,none⟩) T2).trans X4;have k5:=(hb7.cell (p:=⟨wr.heap.size,1,none⟩) T3).trans X5;have k6:=(hb7.cell (p:=⟨wr.heap.size,2,none⟩) T3).trans X6;have k7:=(hb7.cell (p:=⟨wr.heap.size,3,none⟩) T3).trans X7) | (go_at_call_of 23 (v.S bb).sp;refine (l12far47 pa v.n pc v.P ja v.m jc ep (v.S bb).sp (-1) _ (by omega) hpn (hP5.mono lr hb7 lr) hln hspb).mono ?_;rintro e w8 ⟨rfl,hb8⟩;have k0:=(hb8.cell (p:=⟨w.heap.size,0,none⟩) (ltl T0 hb7.size)).trans k0;have k1:=(hb8.cell (p:=⟨bf,0,none⟩) (ltl T1 hb7.size)).trans k1;have k2:=(hb8.cell (p:=⟨bf,1,none⟩) (ltl T1 hb7.size)).trans k2;have k3:=(hb8.cell (p:=⟨bf,2,none⟩) (ltl T1 hb7.size)).trans k3;have k4:=(hb8.cell (p:=⟨b,off+bb*4+2,none⟩) (ltl T2 hb7.size)).trans k4;have k5:=(hb8.cell (p:=⟨wr.heap.size,1,none⟩) (ltl T3 hb7.size)).trans k5;have k6:=(hb8.cell (p:=⟨wr.heap.size,2,none⟩) (ltl T3 hb7.size)).trans k6;have k7:=(hb8.cell (p:=⟨wr.heap.size,3,none⟩) (ltl T3 hb7.size)).trans k7))
         have hB8:Below wc.heap.size wc w8:=(hBa.drew.trans (hb7.mono hBa.size)).trans (hb8.mono (Nat.le_trans hBa.size hb7.size))
         clear k0 k1 k2 k3 k4 k5 k6 k7 hb7 hb8 X0 X1 X2 X3 X4 X5 X6 X7 hP5 hBa0
         by_cases h4:farI (v.P ep).ln (v.S q).sp (-1) > farI (v.P ep).ln (v.S bb).sp (-1)
         ·have HV:Hid (lastS (v.P ep).ln v.S ep (-1) (q+1)=some q):=by
           show lastS (v.P ep).ln v.S ep (-1) (q+1)=_
           rw [HL2.out,if_pos h4]
          have h4':decide (farI (v.P ep).ln (v.S bb).sp (-1)<farI (v.P ep).ln (v.S q).sp (-1))=true:=by simp;omega
          clear HL1 HL2
          go_wp2_with fail
          go_roundw
          case rel=>exact ⟨q+1,by omega,by go_num,by rw [HV.out];rfl,hB8⟩
          case measure=>simp [intOf];omega
         ·have HV:Hid (lastS (v.P ep).ln v.S ep (-1) (q+1)=some bb):=by
           show lastS (v.P ep).ln v.S ep (-1) (q+1)=_
           rw [HL2.out,if_neg h4]
          have h4':decide (farI (v.P ep).ln (v.S bb).sp (-1)<farI (v.P ep).ln (v.S q).sp (-1))=false:=by simp;omega
          clear HL1 HL2
          go_wp2_with fail
          go_roundw
          case rel=>exact ⟨q+1,by omega,by go_num,by rw [HV.out];rfl,hB8⟩
          case measure=>simp [intOf];omega
       ·have HV:Hid (lastS (v.P ep).ln v.S ep (-1) (q+1)=o):=by
         show lastS (v.P ep).ln v.S ep (-1) (q+1)=_
         rw [hlk,if_neg (fun h=>h2 h.2)]
        have h1':((v.S q).ln == (ep:Int))=true:=by simp [h1]
        have h2':((v.S q).br == (-1))=false:=by simp [h2]
        clear hlk hlt0 h1 h2
        go_wp2_with fail
        go_quiet (fail)
        go_wp2_with fail
        go_roundw
        case rel=>exact ⟨q+1,by omega,by go_num,by rw [HV.out],below_drewN hBa _⟩
        case measure=>simp [intOf];omega
      ·have HV:Hid (lastS (v.P ep).ln v.S ep (-1) (q+1)=o):=by
        show lastS (v.P ep).ln v.S ep (-1) (q+1)=_
        rw [hlk,if_neg (fun h=>h1 h.1)]
       have h1':((v.S q).ln == (ep:Int))=false:=by simp [h1]
       clear hlk hlt0 h1
       go_wp2_with fail
       go_quiet (fail)
       go_wp2_with fail
       go_roundw
       case rel=>exact ⟨q+1,by omega,by go_num,by rw [HV.out],below_drewN hBa _⟩
       case measure=>simp [intOf];omega
     ·obtain rfl:q=v.k:=by omega
      have FS2:Hid (FlS v w0 pa pc ja jc sa sc bf br out tries li a0 a1 a2 (.slice al li.length cl) a4 a5 a6 (.slice af fl.length cf) fl w ep 0 (.slice as' sl.length cs') (sl ++ [[(ep:Int),0]]) (.slice a1' (sl.length+1) c1') wr):=FSx.out.mono hbel
      clear FSx m0 m1 m2 n0 n1 hBw Hsp hbel
      have r7:wr.cell? ⟨br,7,none⟩=some (.slice af fl.length cf):=FS2.out.rt.cell 7
      have zw:=FS2.out.bel.size
      have zfr:=FS2.out.fr.size
      rcases hlast:lastS (v.P ep).ln v.S ep (-1) v.k with _ | bb
      ·rw [show bestV none=-1 from rfl]
       have HLA:Hid (lastS (v.P ((⟨ep,0⟩:En).pc.toNat)).ln v.S (⟨ep,0⟩:En).pc (if (⟨ep,0⟩:En).sd=0 then -1 else 1) v.k=none):=hlast
       clear hlast
       have m0:wr.cell? ⟨bf,0,none⟩=some (.slice pa v.n pc):=FS2.out.bx.cell 0
       have m1:wr.cell? ⟨bf,1,none⟩=some (.slice ja v.m jc):=FS2.out.bx.cell 1
       have n0:wr.cell? ⟨w.heap.size,0,none⟩=some (.int .i64 ep):=FS2.out.eb.cell 0
       have n1:wr.cell? ⟨w.heap.size,1,none⟩=some (.int .i64 0):=FS2.out.eb.cell 1
       have T1:bf<wr.heap.size:=FS2.out.bx.lt
       have T0:w.heap.size<wr.heap.size:=FS2.out.eb.lt
       have Hne:Hid (∀ i,i<v.m→(v.J i).ne≤1048576):=fun i hi=>by have:=OK.out.kd i hi;omega
       have hJ2:JsAt 0 wr.drew ja v.m v.J:=HN.out.j.mono lr FS2.out.bel.drew lr
       obtain ⟨j,q,hat,hja,hjm,hqn,hjE,hk1,hk2,hk3⟩:=OK.out.there (e:=⟨ep,1⟩) (by show (0:Int)≤(ep:Int);omega) (by show (ep:Int)<v.n;omega) (by first | exact .inl rfl | exact .inr rfl)
       have A1:(atV (jointAt v.J ⟨ep,1⟩ v.m)).1=(j:Int):=by rw [hja];rfl
       have A2:(atV (jointAt v.J ⟨ep,1⟩ v.m)).2=(q:Int):=by rw [hja];rfl
       have HAT:Hid (v.at ⟨(⟨ep,0⟩:En).pc,1-(⟨ep,0⟩:En).sd⟩=(j,q)):=hat
       clear hja hat hjE
       go_wp2_with fail
       go_region_held3 (fun w'=>w'.cell? ⟨bf,0,none⟩=some (.slice pa v.n pc)∧w'.cell? ⟨bf,1,none⟩=some (.slice ja v.m jc)∧w'.cell? ⟨w.heap.size,0,none⟩=some (.int .i64 ep)∧w'.cell? ⟨w.heap.size,1,none⟩=some (.int .i64 0)) (go_keep) (first | (go_at_call 57;refine (l11at78 pa v.n pc ja v.m jc v.J ⟨ep,1⟩ _ (by omega) hJ2 Hne.out).mono ?_;rintro e w8 ⟨rfl,hb8⟩;have k0:=(hb8.cell (p:=⟨bf,0,none⟩) T1).trans m0;have k1:=(hb8.cell (p:=⟨bf,1,none⟩) T1).trans m1;have k2:=(hb8.cell (p:=⟨w.heap.size,0,none⟩) T0).trans n0;have k3:=(hb8.cell (p:=⟨w.heap.size,1,none⟩) T0).trans n1))
       have hb8':Below wr.heap.size wr w8:=(Below.refl wr.heap.size wr).drew.trans hb8
       have FS8:=FS2.out.mono hb8'
       clear hb8 hJ2 m0 m1 n0 n1 T0 T1 Hne r7 FS2
       obtain ⟨b2,off2,hja2,_,hb2,hc2⟩:=HN.out.j (by omega)
       obtain ⟨ea,ec,d0',d1',d2',hEs⟩:=hc2 j hjm
       have F1:w8.cell? ⟨bf,1,none⟩=some (.slice ja v.m jc):=FS8.bx.cell 1
       subst hja2
       have d0:=(FS8.bel.cell (p:=⟨b2,off2+j*3,none⟩) hb2).trans d0'
       have d1:=(FS8.bel.cell (p:=⟨b2,off2+j*3+1,none⟩) hb2).trans d1'
       have d2:=(FS8.bel.cell (p:=⟨b2,off2+j*3+2,none⟩) hb2).trans d2'
       clear hc2 d0' d1' d2'
       have hji:(j:Int)<(v.m:Int):=by omega
       have z8:=FS8.bel.size
       have zf:=FS8.fr.size
       have hso':Hid (Once 0 1 v.n (sl ++ [[(ep:Int),0]])):=HSO.out.snoc hpn (by first | exact .inl rfl | exact .inr rfl) Hm.out
       have hsl':(sl ++ [[(ep:Int),0]]).length=sl.length+1:=by simp
       have hsl2:=hso'.out.len
       rw [hsl'] at hsl2
       rcases (show (v.J j).kd=1∨(v.J j).kd=2∨(v.J j).kd=3∨(v.J j).kd=4 by omega) with hk | hk | hk | hk
       ·have HFL:Hid (v.fl li atj (f+1) sl ⟨ep,0⟩=(sl ++ [[(ep:Int),0]],[[atj,1,(j:Int),0]])):=fl_buf Hm.out HLA.out HAT.out hk
        have hne':(v.J j).ne=1:=by omega
        rw [hk] at d0
        rw [hne'] at d2 hEs
        have FS9:Hid (FlS v w0 pa pc (some ⟨b2,off2,none⟩) jc sa sc bf br out tries li a0 a1 a2 (.slice al li.length cl) a4 a5 a6 (.slice af fl.length cf) fl w ep 0 (.slice as' sl.length cs') (sl ++ [[(ep:Int),0]]) (.slice a1' (sl.length+1) c1') (w8.alloc (.cells #[.int .i64 1,.string (v.J j).nm,.slice ea 1 ec] 115))):=FS8.mono (bel1 w8 _)
        have r7:(w8.alloc (.cells #[.int .i64 1,.string (v.J j).nm,.slice ea 1 ec] 115)).cell? ⟨br,7,none⟩=some (.slice af fl.length cf):=FS9.out.rt.cell 7
        clear hk FS8
        go_wp2_with (at_builtin;go_must (refine wpList_appH _ rfl (.tmp 156) (.tmp 160) 62 rfl w0.heap.size 155 i6 _ 4 32 Tryz.underlying62 e61 e62 e63 e64 rfl (by decide) _ fl rfl (FS9.out.fl.alloc _) ⟨w8.heap.size+1,0,none⟩ 1 1 [[atj,1,(j:Int),0]] rfl rfl (by decide) (Wide.one rfl) (news_at [atj,1,(j:Int),0] (by simp)) (by simp [maxLen];omega) (by omega) (by simp;omega) ?_))
        refine Halt.mk fun v3 w3 ho3 _ hap3=>?_
        obtain ⟨a3',c3',rfl⟩:=ho3.val
        rw [List.length_append] at ho3 hap3
        have r3:Box w3 br 64 #[a0,a1,a2,(.slice al li.length cl),a4,a5,a6,.slice af fl.length cf]:=(FS9.out.rt.alloc _).grown hap3.fr (fun e=>FS9.out.fl.off FS9.out.rt (by decide) e rfl)
        have t3:=r3.free 7
        have u3:w3.cell? ⟨br,7,none⟩=some (.slice af fl.length cf):=r3.cell 7
        have FP:=flankP_one FS9.out HFL.out hbr hne ho3 hap3
        have HFP:Hid (FlankP v w0 pa pc (some ⟨b2,off2,none⟩) jc sa sc bf br out tries li atj a0 a1 a2 (.slice al li.length cl) a4 a5 a6 (f+1) (.slice as' sl.length cs') (.slice af fl.length cf) sl fl ⟨ep,0⟩ w (.returned (.tuple #[])) (w3.setCell ⟨br,7,none⟩ (.slice a3' (fl.length+1) c3'))):=FP
        clear r3 FP hap3 ho3
        go_wp2_with fail
        refine bodyPost_ret (results_none rfl _ _ _) rfl ?_
        exact HFP.out
       ·have hne':(v.J j).ne=2:=by omega
        rw [hk] at d0
        rw [hne'] at d2 hEs
        have FS9:Hid (FlS v w0 pa pc (some ⟨b2,off2,none⟩) jc sa sc bf br out tries li a0 a1 a2 (.slice al li.length cl) a4 a5 a6 (.slice af fl.length cf) fl w ep 0 (.slice as' sl.length cs') (sl ++ [[(ep:Int),0]]) (.slice a1' (sl.length+1) c1') (w8.alloc (.cells #[.int .i64 2,.string (v.J j).nm,.slice ea 2 ec] 115))):=FS8.mono (bel1 w8 _)
        have hEs9:EsAt 0 (w8.alloc (.cells #[.int .i64 2,.string (v.J j).nm,.slice ea 2 ec] 115)) ea 2 (v.J j).E:=hEs.mono lr FS9.out.bel lr
        rcases (show q=0∨q=1 by omega) with rfl | rfl
        ·have HFL:Hid (v.fl li atj (f+1) sl ⟨ep,0⟩=v.fl li atj f (sl ++ [[(ep:Int),0]]) ((v.J j).E 1)):=fl_on Hm.out HLA.out HAT.out (by omega) (by omega) (by rw [hk];rfl)
         have heo:=OK.out.enOk hjm (q:=1) (by omega)
         clear hk FS8
         go_wp2_with fail
         refine (across80_2_0 (v.J j).nm ea 2 ec (v.J j).E _ rfl hEs9).mono ?_
         rintro r10 w10 ⟨a10,rfl,hE10,hb10⟩
         obtain ⟨b10,off10,rfl,_,hb10',hc10⟩:=hE10 (by omega)
         have g0:w10.cell? ⟨b10,off10,none⟩=some (.int .i64 ((v.J j).E 1).pc):=(hc10 0 (by omega)).1
         have g1:w10.cell? ⟨b10,off10+1,none⟩=some (.int .i64 ((v.J j).E 1).sd):=(hc10 0 (by omega)).2
         have FS10:=FS9.out.mono hb10
         clear hc10 hEs9
         go_wp2_with fail
         refine (IH.out _ _ (sl ++ [[(ep:Int),0]]) fl ((v.J j).E 1) _ heo FS10.bel FS10.bx FS10.own FS10.rt FS10.li FS10.fl hso'.out (by rw [hsl'];omega) (by rw [hsl'];omega)).mono ?_
         intro r11 w11 P11
         have P12:=flankP_on FS10 HFL.out P11
         obtain ⟨rfl,P13⟩:=P12
         have HP:Hid (FlankP v w0 pa pc (some ⟨b2,off2,none⟩) jc sa sc bf br out tries li atj a0 a1 a2 (.slice al li.length cl) a4 a5 a6 (f+1) (.slice as' sl.length cs') (.slice af fl.length cf) sl fl ⟨ep,0⟩ w (.returned (.tuple #[])) w11):=⟨rfl,P13⟩
         clear P13 P11
         go_wp2_with fail
         first
          | (go_end0;exact HP.out)
          | (refine bodyPost_ret (results_none rfl _ _ _) rfl ?_;exact HP.out)
        ·have HFL:Hid (v.fl li atj (f+1) sl ⟨ep,0⟩=v.fl li atj f (sl ++ [[(ep:Int),0]]) ((v.J j).E 0)):=fl_on Hm.out HLA.out HAT.out (by omega) (by omega) (by rw [hk];rfl)
         have heo:=OK.out.enOk hjm (q:=0) (by omega)
         clear hk FS8
         go_wp2_with fail
         refine (across80_2_1 (v.J j).nm ea 2 ec (v.J j).E _ rfl hEs9).mono ?_
         rintro r10 w10 ⟨a10,rfl,hE10,hb10⟩
         obtain ⟨b10,off10,rfl,_,hb10',hc10⟩:=hE10 (by omega)
         have g0:w10.cell? ⟨b10,off10,none⟩=some (.int .i64 ((v.J j).E 0).pc):=(hc10 0 (by omega)).1
         have g1:w10.cell? ⟨b10,off10+1,none⟩=some (.int .i64 ((v.J j).E 0).sd):=(hc10 0 (by omega)).2
         have FS10:=FS9.out.mono hb10
         clear hc10 hEs9
         go_wp2_with fail
         refine (IH.out _ _ (sl ++ [[(ep:Int),0]]) fl ((v.J j).E 0) _ heo FS10.bel FS10.bx FS10.own FS10.rt FS10.li FS10.fl hso'.out (by rw [hsl'];omega) (by rw [hsl'];omega)).mono ?_
         intro r11 w11 P11
         have P12:=flankP_on FS10 HFL.out P11
         obtain ⟨rfl,P13⟩:=P12
         have HP:Hid (FlankP v w0 pa pc (some ⟨b2,off2,none⟩) jc sa sc bf br out tries li atj a0 a1 a2 (.slice al li.length cl) a4 a5 a6 (f+1) (.slice as' sl.length cs') (.slice af fl.length cf) sl fl ⟨ep,0⟩ w (.returned (.tuple #[])) w11):=⟨rfl,P13⟩
         clear P13 P11
         go_wp2_with fail
         first
          | (go_end0;exact HP.out)
          | (refine bodyPost_ret (results_none rfl _ _ _) rfl ?_;exact HP.out)
       ·have hne':(v.J j).ne=3:=by omega
        rw [hk] at d0
        rw [hne'] at d2 hEs
        have FS9:Hid (FlS v w0 pa pc (some ⟨b2,off2,none⟩) jc sa sc bf br out tries li a0 a1 a2 (.slice al li.length cl) a4 a5 a6 (.slice af fl.length cf) fl w ep 0 (.slice as' sl.length cs') (sl ++ [[(ep:Int),0]]) (.slice a1' (sl.length+1) c1') (w8.alloc (.cells #[.int .i64 3,.string (v.J j).nm,.slice ea 3 ec] 115))):=FS8.mono (bel1 w8 _)
        have hEs9:EsAt 0 (w8.alloc (.cells #[.int .i64 3,.string (v.J j).nm,.slice ea 3 ec] 115)) ea 3 (v.J j).E:=hEs.mono lr FS9.out.bel lr
        have FS8':=FS8
        by_cases hq0:q=0
        ·subst hq0
         have HFL:Hid _:=fl_tip (li:=li) (at':=atj) (f:=f) (e:=⟨ep,0⟩) Hm.out HLA.out HAT.out hk
         have heo1:=OK.out.enOk hjm (q:=1) (by omega)
         have heo2:=OK.out.enOk hjm (q:=2) (by omega)
         clear hk FS8
         obtain ⟨b3,off3,rfl,_,hb3,hc3⟩:=hEs (by omega)
         have x1:(w8.alloc (.cells #[.int .i64 3,.string (v.J j).nm,.slice (some ⟨b3,off3,none⟩) 3 ec] 115)).cell? ⟨b3,off3+2,none⟩=some (.int .i64 ((v.J j).E 1).pc):=(FS9.out.bel.cell (p:=⟨b3,off3+2,none⟩) hb3).trans (hc3 1 (by omega)).1
         have x2:(w8.alloc (.cells #[.int .i64 3,.string (v.J j).nm,.slice (some ⟨b3,off3,none⟩) 3 ec] 115)).cell? ⟨b3,off3+2+1,none⟩=some (.int .i64 ((v.J j).E 1).sd):=(FS9.out.bel.cell (p:=⟨b3,off3+2+1,none⟩) hb3).trans (hc3 1 (by omega)).2
         clear hEs9
         go_wp2_with fail
         refine (IH.out _ _ (sl ++ [[(ep:Int),0]]) fl ((v.J j).E 1) _ heo1 FS9.out.bel FS9.out.bx FS9.out.own FS9.out.rt FS9.out.li FS9.out.fl hso'.out (by rw [hsl'];omega) (by rw [hsl'];omega)).mono ?_
         rintro r11 w11 P11
         obtain ⟨n1,n2,n3,n4⟩:=fl_grow OK.out li atj f (sl ++ [[(ep:Int),0]]) ((v.J j).E 1) hso'.out heo1
         obtain ⟨rfl,s9,f9,g1,g2,g3,g4,g5,g6,g7,g8,g9⟩:=P11
         obtain ⟨as9,cs9,hv9⟩:=g3.val
         obtain ⟨af9,cf9,hw9⟩:=g6.val
         subst hv9
         subst hw9
         have y1:w11.cell? ⟨b3,off3+4,none⟩=some (.int .i64 ((v.J j).E 2).pc):=(g1.cell (p:=⟨b3,off3+4,none⟩) hb3).trans (hc3 2 (by omega)).1
         have y2:w11.cell? ⟨b3,off3+4+1,none⟩=some (.int .i64 ((v.J j).E 2).sd):=(g1.cell (p:=⟨b3,off3+4+1,none⟩) hb3).trans (hc3 2 (by omega)).2
         have bx16:Box w11 w8.heap.size 115 #[.int .i64 3,.string (v.J j).nm,.slice (some ⟨b3,off3,none⟩) 3 ec]:=(Box.new w8 115 _).keep (g7.block w8.heap.size (by simp) (fun y=>by
          rcases y with y | y | y | y
          ·have:=FS9.out.bx;have h9:=FS8'.bx.lt;omega
          ·have h9:=FS8'.rt.lt;omega
          ·have h9:=(FS8'.own.lt y).2;omega
          ·have h9:=(FS8'.fl.lt y).2;omega))
         have y3:w11.cell? ⟨w8.heap.size,2,none⟩=some (.slice (some ⟨b3,off3,none⟩) 3 ec):=bx16.cell 2
         have HX:Hid (Fr (fun k=>k=bf∨k=br∨(Value.slice as' sl.length cs').ownBlock=some k∨(Value.slice af fl.length cf).ownBlock=some k) w w11):=FS9.out.fr.then g7 (fun i hi y=>by
          rcases y with y | y | y | y
          ·exact .inl y
          ·exact .inr (.inl y)
          ·rcases FS9.out.mv i y with z | z
           ·exact .inr (.inr (.inl z))
           ·omega
          ·exact .inr (.inr (.inr y)))
         have HM1:Hid (Moved w (.slice as' sl.length cs') _):=FS9.out.mv.trans g8 FS9.out.fr.size
         have HM2:Hid (Moved w (.slice af fl.length cf) _):=g9.old FS9.out.fr.size
         have hl9:(fl ++ (v.fl li atj f (sl ++ [[(ep:Int),0]]) ((v.J j).E 1)).2).length=fl.length+(v.fl li atj f (sl ++ [[(ep:Int),0]]) ((v.J j).E 1)).2.length:=by rw [List.length_append]
         rw [hsl'] at n2 n3
         have n5:=n1.len
         have C2:=IH.out _ _ (v.fl li atj f (sl ++ [[(ep:Int),0]]) ((v.J j).E 1)).1 (fl ++ (v.fl li atj f (sl ++ [[(ep:Int),0]]) ((v.J j).E 1)).2) ((v.J j).E 2) w11 heo2 g1 g2 g3 g4 g5 g6 n1 (by omega) (by rw [hl9];omega)
         clear hc3 g1 g2 g3 g4 g5 g6 g7 g8 g9 bx16 x1 x2 n1 n2 n3 n4
         have HC2:Hid (Calls Tryz.prog 87 _ _ _):=C2
         clear C2
         go_wp2_with fail
         refine HC2.out.mono ?_
         intro r12 w12 P12
         have P13:=flankP_two (w:=w) (seen:=.slice as' sl.length cs') (fv:=.slice af fl.length cf) (sl:=sl) (fl:=fl) (f:=f+1) (e:=⟨ep,0⟩) HM1.out HM2.out HX.out HFL.out rfl (by rw [List.append_assoc]) P12
         obtain ⟨rfl,P14⟩:=P13
         have HP:Hid (FlankP v w0 pa pc (some ⟨b2,off2,none⟩) jc sa sc bf br out tries li atj a0 a1 a2 (.slice al li.length cl) a4 a5 a6 (f+1) (.slice as' sl.length cs') (.slice af fl.length cf) sl fl ⟨ep,0⟩ w (.returned (.tuple #[])) w12):=⟨rfl,P14⟩
         clear P14 P12 HC2
         go_wp2_with fail
         first
          | (go_end0;exact HP.out)
          | (refine bodyPost_ret (results_none rfl _ _ _) rfl ?_;exact HP.out)
        ·have hq0':((q:Int) == 0)=false:=by simp;omega
         have hq3:q≤2:=by omega
         have r3:(w8.alloc (.cells #[.int .i64 3,.string (v.J j).nm,.slice ea 3 ec] 115)).cell? ⟨br,3,none⟩=some (.slice al li.length cl):=FS9.out.rt.cell 3
         have HT:Hid ([(j:Int),(q:Int)] ∈ li→v.fl li atj (f+1) sl ⟨ep,0⟩=(sl ++ [[(ep:Int),0]],[[atj,4,(j:Int),0]])):=fun h=>fl_open Hm.out HLA.out HAT.out hk hq0 h
         have HU:Hid ([(j:Int),(q:Int)] ∉ li→v.fl li atj (f+1) sl ⟨ep,0⟩=(sl ++ [[(ep:Int),0]],[[atj,3,(j:Int),3-(q:Int)]])):=fun h=>fl_shut Hm.out HLA.out HAT.out hk hq0 h
         obtain ⟨al2,cl2,hv2,hLs⟩:=FS9.out.li.ls.val
         simp only [Value.slice.injEq] at hv2
         obtain ⟨rfl,_,rfl⟩:=hv2
         clear hk FS8 FS8' hEs9
         go_wp2_with fail
         generalize w8.alloc (.cells #[.int .i64 3,.string (v.J j).nm,.slice ea 3 ec] 115)=w9 at *
         go_loopw [189] (fun i wr=>∃ k:Nat,k≤li.length∧i=.int .i64 k∧Hid (∀ i,i<k→¬(fnL li i 0=(j:Int)∧fnL li i 1=(q:Int)))∧Below w9.heap.size w9 wr) (fun i _=>li.length-(intOf i).toNat)
         case atStart=>exact ⟨0,Nat.zero_le _,rfl,fun i hi=>absurd hi (Nat.not_lt_zero _),Below.refl _ _⟩
         case round=>
          obtain ⟨k,hk,rfl,hall,hbel9⟩:=hrel
          have FS10:Hid (FlS v w0 pa pc (some ⟨b2,off2,none⟩) jc sa sc bf br out tries li a0 a1 a2 (.slice al li.length cl) a4 a5 a6 (.slice af fl.length cf) fl w ep 0 (.slice as' sl.length cs') (sl ++ [[(ep:Int),0]]) (.slice a1' (sl.length+1) c1') wr):=FS9.out.mono hbel9
          have z10:=FS10.out.bel.size
          by_cases hlt:k<li.length
          ·obtain ⟨b4,off4,rfl,_,hb4,hc4⟩:=(hLs.mono zl hbel9 lr) (by omega)
           have c0:wr.cell? ⟨b4,off4+k*2,none⟩=some (.int .i64 (fnL li k 0)):=hc4 k hlt 0 (by omega)
           have c1:wr.cell? ⟨b4,off4+k*2+1,none⟩=some (.int .i64 (fnL li k 1)):=hc4 k hlt 1 (by omega)
           clear hc4
           by_cases h1:fnL li k 0=(j:Int)
           ·by_cases h2:fnL li k 1=(q:Int)
            ·have HFL:=HT.out (row_mem FS10.out.li.1 hlt h1 h2)
             have FS11:Hid (FlS v w0 pa pc (some ⟨b2,off2,none⟩) jc sa sc bf br out tries li a0 a1 a2 (.slice (some ⟨b4,off4,none⟩) li.length cl) a4 a5 a6 (.slice af fl.length cf) fl w ep 0 (.slice as' sl.length cs') (sl ++ [[(ep:Int),0]]) (.slice a1' (sl.length+1) c1') (wr.alloc (.cells #[.int .i64 (j:Int),.int .i64 (q:Int)] 136))):=FS10.out.mono (bel1 wr _)
             rw [h1] at c0
             rw [h2] at c1
             have HFL:Hid _:=HFL
             have r7:(wr.alloc (.cells #[.int .i64 (j:Int),.int .i64 (q:Int)] 136)).cell? ⟨br,7,none⟩=some (.slice af fl.length cf):=FS11.out.rt.cell 7
             clear hall h1 h2 HT HU
             go_wp2_with (at_builtin;go_must (refine wpList_appH _ rfl (.tmp 207) (.tmp 211) 62 rfl w0.heap.size 155 i6 _ 4 32 Tryz.underlying62 e61 e62 e63 e64 rfl (by decide) _ fl rfl (FS11.out.fl.alloc _) ⟨wr.heap.size+1,0,none⟩ 1 1 [[atj,4,(j:Int),0]] rfl rfl (by decide) (Wide.one rfl) (news_at [atj,4,(j:Int),0] (by simp)) (by simp [maxLen];omega) (by omega) (by simp;omega) ?_))
             refine Halt.mk fun v3 w3 ho3 _ hap3=>?_
             obtain ⟨a3',c3',rfl⟩:=ho3.val
             rw [List.length_append] at ho3 hap3
             have r3:Box w3 br 64 #[a0,a1,a2,(.slice (some ⟨b4,off4,none⟩) li.length cl),a4,a5,a6,.slice af fl.length cf]:=(FS11.out.rt.alloc _).grown hap3.fr (fun e=>FS11.out.fl.off FS11.out.rt (by decide) e rfl)
             have t3:=r3.free 7
             have u3:w3.cell? ⟨br,7,none⟩=some (.slice af fl.length cf):=r3.cell 7
             have FP:=flankP_one FS11.out HFL.out hbr hne ho3 hap3
             have HFP:Hid (FlankP v w0 pa pc (some ⟨b2,off2,none⟩) jc sa sc bf br out tries li atj a0 a1 a2 (.slice (some ⟨b4,off4,none⟩) li.length cl) a4 a5 a6 (f+1) (.slice as' sl.length cs') (.slice af fl.length cf) sl fl ⟨ep,0⟩ w (.returned (.tuple #[])) (w3.setCell ⟨br,7,none⟩ (.slice a3' (fl.length+1) c3'))):=FP
             clear r3 FP hap3 ho3
             go_wp2_with fail
             refine bodyPost_ret (results_none rfl _ _ _) rfl ?_
             exact HFP.out
            ·have Hv:Hid (∀ i,i<k+1→¬(fnL li i 0=(j:Int)∧fnL li i 1=(q:Int))):=by
              intro i hi
              by_cases e:i=k
              ·subst e;exact fun h=>h2 h.2
              ·exact hall.out i (by omega)
             have h1':(fnL li k 0 == (j:Int))=true:=by simp [h1]
             have h2':(fnL li k 1 == (q:Int))=false:=by simp [h2]
             clear hall h1 h2 HT HU
             go_wp2_with fail
             go_roundw
             case rel=>exact ⟨k+1,by omega,by go_num,Hv,hbel9.alloc hbel9.size _⟩
             case measure=>simp [intOf];omega
           ·have Hv:Hid (∀ i,i<k+1→¬(fnL li i 0=(j:Int)∧fnL li i 1=(q:Int))):=by
             intro i hi
             by_cases e:i=k
             ·subst e;exact fun h=>h1 h.1
             ·exact hall.out i (by omega)
            have h1':(fnL li k 0 == (j:Int))=false:=by simp [h1]
            clear hall h1 HT HU
            go_wp2_with fail
            go_roundw
            case rel=>exact ⟨k+1,by omega,by go_num,Hv,hbel9.alloc hbel9.size _⟩
            case measure=>simp [intOf];omega
          ·obtain rfl:k=li.length:=by omega
           have HFL:Hid _:=HU.out (row_not hall.out)
           have r7:wr.cell? ⟨br,7,none⟩=some (.slice af fl.length cf):=FS10.out.rt.cell 7
           clear hall HT HU
           go_wp2_with (at_builtin;go_must (refine wpList_appH _ rfl (.tmp 220) (.tmp 226) 62 rfl w0.heap.size 155 i6 _ 4 32 Tryz.underlying62 e61 e62 e63 e64 rfl (by decide) _ fl rfl (FS10.out.fl.alloc _) ⟨wr.heap.size,0,none⟩ 1 1 [[atj,3,(j:Int),3-(q:Int)]] rfl rfl (by decide) (Wide.one rfl) (news_at [atj,3,(j:Int),3-(q:Int)] rfl) (by simp [maxLen];omega) (by omega) (by simp;omega) ?_))
           refine Halt.mk fun v3 w3 ho3 _ hap3=>?_
           obtain ⟨a3',c3',rfl⟩:=ho3.val
           rw [List.length_append] at ho3 hap3
           have r3:Box w3 br 64 #[a0,a1,a2,(.slice al li.length cl),a4,a5,a6,.slice af fl.length cf]:=(FS10.out.rt.alloc _).grown hap3.fr (fun e=>FS10.out.fl.off FS10.out.rt (by decide) e rfl)
           have t3:=r3.free 7
           have u3:w3.cell? ⟨br,7,none⟩=some (.slice af fl.length cf):=r3.cell 7
           have FP:=flankP_one FS10.out HFL.out hbr hne ho3 hap3
           have HFP:Hid (FlankP v w0 pa pc (some ⟨b2,off2,none⟩) jc sa sc bf br out tries li atj a0 a1 a2 (.slice al li.length cl) a4 a5 a6 (f+1) (.slice as' sl.length cs') (.slice af fl.length cf) sl fl ⟨ep,0⟩ w (.returned (.tuple #[])) (w3.setCell ⟨br,7,none⟩ (.slice a3' (fl.length+1) c3'))):=FP
           clear r3 FP hap3 ho3
           go_wp2_with fail
           refine bodyPost_ret (results_none rfl _ _ _) rfl ?_
           exact HFP.out
       ·have hne':(v.J j).ne=4:=by omega
        rw [hk] at d0
        rw [hne'] at d2 hEs
        have FS9:Hid (FlS v w0 pa pc (some ⟨b2,off2,none⟩) jc sa sc bf br out tries li a0 a1 a2 (.slice al li.length cl) a4 a5 a6 (.slice af fl.length cf) fl w ep 0 (.slice as' sl.length cs') (sl ++ [[(ep:Int),0]]) (.slice a1' (sl.length+1) c1') (w8.alloc (.cells #[.int .i64 4,.string (v.J j).nm,.slice ea 4 ec] 115))):=FS8.mono (bel1 w8 _)
        have hEs9:EsAt 0 (w8.alloc (.cells #[.int .i64 4,.string (v.J j).nm,.slice ea 4 ec] 115)) ea 4 (v.J j).E:=hEs.mono lr FS9.out.bel lr
        rcases (show q=0∨q=1∨q=2∨q=3 by omega) with rfl | rfl | rfl | rfl
        ·have HFL:Hid (v.fl li atj (f+1) sl ⟨ep,0⟩=v.fl li atj f (sl ++ [[(ep:Int),0]]) ((v.J j).E 1)):=fl_on Hm.out HLA.out HAT.out (by omega) (by omega) (by rw [hk];rfl)
         have heo:=OK.out.enOk hjm (q:=1) (by omega)
         clear hk FS8
         go_wp2_with fail
         refine (across80_4_0 (v.J j).nm ea 4 ec (v.J j).E _ rfl hEs9).mono ?_
         rintro r10 w10 ⟨a10,rfl,hE10,hb10⟩
         obtain ⟨b10,off10,rfl,_,hb10',hc10⟩:=hE10 (by omega)
         have g0:w10.cell? ⟨b10,off10,none⟩=some (.int .i64 ((v.J j).E 1).pc):=(hc10 0 (by omega)).1
         have g1:w10.cell? ⟨b10,off10+1,none⟩=some (.int .i64 ((v.J j).E 1).sd):=(hc10 0 (by omega)).2
         have FS10:=FS9.out.mono hb10
         clear hc10 hEs9
         go_wp2_with fail
         refine (IH.out _ _ (sl ++ [[(ep:Int),0]]) fl ((v.J j).E 1) _ heo FS10.bel FS10.bx FS10.own FS10.rt FS10.li FS10.fl hso'.out (by rw [hsl'];omega) (by rw [hsl'];omega)).mono ?_
         intro r11 w11 P11
         have P12:=flankP_on FS10 HFL.out P11
         obtain ⟨rfl,P13⟩:=P12
         have HP:Hid (FlankP v w0 pa pc (some ⟨b2,off2,none⟩) jc sa sc bf br out tries li atj a0 a1 a2 (.slice al li.length cl) a4 a5 a6 (f+1) (.slice as' sl.length cs') (.slice af fl.length cf) sl fl ⟨ep,0⟩ w (.returned (.tuple #[])) w11):=⟨rfl,P13⟩
         clear P13 P11
         go_wp2_with fail
         first
          | (go_end0;exact HP.out)
          | (refine bodyPost_ret (results_none rfl _ _ _) rfl ?_;exact HP.out)
        ·have HFL:Hid (v.fl li atj (f+1) sl ⟨ep,0⟩=v.fl li atj f (sl ++ [[(ep:Int),0]]) ((v.J j).E 0)):=fl_on Hm.out HLA.out HAT.out (by omega) (by omega) (by rw [hk];rfl)
         have heo:=OK.out.enOk hjm (q:=0) (by omega)
         clear hk FS8
         go_wp2_with fail
         refine (across80_4_1 (v.J j).nm ea 4 ec (v.J j).E _ rfl hEs9).mono ?_
         rintro r10 w10 ⟨a10,rfl,hE10,hb10⟩
         obtain ⟨b10,off10,rfl,_,hb10',hc10⟩:=hE10 (by omega)
         have g0:w10.cell? ⟨b10,off10,none⟩=some (.int .i64 ((v.J j).E 0).pc):=(hc10 0 (by omega)).1
         have g1:w10.cell? ⟨b10,off10+1,none⟩=some (.int .i64 ((v.J j).E 0).sd):=(hc10 0 (by omega)).2
         have FS10:=FS9.out.mono hb10
         clear hc10 hEs9
         go_wp2_with fail
         refine (IH.out _ _ (sl ++ [[(ep:Int),0]]) fl ((v.J j).E 0) _ heo FS10.bel FS10.bx FS10.own FS10.rt FS10.li FS10.fl hso'.out (by rw [hsl'];omega) (by rw [hsl'];omega)).mono ?_
         intro r11 w11 P11
         have P12:=flankP_on FS10 HFL.out P11
         obtain ⟨rfl,P13⟩:=P12
         have HP:Hid (FlankP v w0 pa pc (some ⟨b2,off2,none⟩) jc sa sc bf br out tries li atj a0 a1 a2 (.slice al li.length cl) a4 a5 a6 (f+1) (.slice as' sl.length cs') (.slice af fl.length cf) sl fl ⟨ep,0⟩ w (.returned (.tuple #[])) w11):=⟨rfl,P13⟩
         clear P13 P11
         go_wp2_with fail
         first
          | (go_end0;exact HP.out)
          | (refine bodyPost_ret (results_none rfl _ _ _) rfl ?_;exact HP.out)
        ·have HFL:Hid (v.fl li atj (f+1) sl ⟨ep,0⟩=v.fl li atj f (sl ++ [[(ep:Int),0]]) ((v.J j).E 3)):=fl_on Hm.out HLA.out HAT.out (by omega) (by omega) (by rw [hk];rfl)
         have heo:=OK.out.enOk hjm (q:=3) (by omega)
         clear hk FS8
         go_wp2_with fail
         refine (across80_4_2 (v.J j).nm ea 4 ec (v.J j).E _ rfl hEs9).mono ?_
         rintro r10 w10 ⟨a10,rfl,hE10,hb10⟩
         obtain ⟨b10,off10,rfl,_,hb10',hc10⟩:=hE10 (by omega)
         have g0:w10.cell? ⟨b10,off10,none⟩=some (.int .i64 ((v.J j).E 3).pc):=(hc10 0 (by omega)).1
         have g1:w10.cell? ⟨b10,off10+1,none⟩=some (.int .i64 ((v.J j).E 3).sd):=(hc10 0 (by omega)).2
         have FS10:=FS9.out.mono hb10
         clear hc10 hEs9
         go_wp2_with fail
         refine (IH.out _ _ (sl ++ [[(ep:Int),0]]) fl ((v.J j).E 3) _ heo FS10.bel FS10.bx FS10.own FS10.rt FS10.li FS10.fl hso'.out (by rw [hsl'];omega) (by rw [hsl'];omega)).mono ?_
         intro r11 w11 P11
         have P12:=flankP_on FS10 HFL.out P11
         obtain ⟨rfl,P13⟩:=P12
         have HP:Hid (FlankP v w0 pa pc (some ⟨b2,off2,none⟩) jc sa sc bf br out tries li atj a0 a1 a2 (.slice al li.length cl) a4 a5 a6 (f+1) (.slice as' sl.length cs') (.slice af fl.length cf) sl fl ⟨ep,0⟩ w (.returned (.tuple #[])) w11):=⟨rfl,P13⟩
         clear P13 P11
         go_wp2_with fail
         first
          | (go_end0;exact HP.out)
          | (refine bodyPost_ret (results_none rfl _ _ _) rfl ?_;exact HP.out)
        ·have HFL:Hid (v.fl li atj (f+1) sl ⟨ep,0⟩=v.fl li atj f (sl ++ [[(ep:Int),0]]) ((v.J j).E 2)):=fl_on Hm.out HLA.out HAT.out (by omega) (by omega) (by rw [hk];rfl)
         have heo:=OK.out.enOk hjm (q:=2) (by omega)
         clear hk FS8
         go_wp2_with fail
         refine (across80_4_3 (v.J j).nm ea 4 ec (v.J j).E _ rfl hEs9).mono ?_
         rintro r10 w10 ⟨a10,rfl,hE10,hb10⟩
         obtain ⟨b10,off10,rfl,_,hb10',hc10⟩:=hE10 (by omega)
         have g0:w10.cell? ⟨b10,off10,none⟩=some (.int .i64 ((v.J j).E 2).pc):=(hc10 0 (by omega)).1
         have g1:w10.cell? ⟨b10,off10+1,none⟩=some (.int .i64 ((v.J j).E 2).sd):=(hc10 0 (by omega)).2
         have FS10:=FS9.out.mono hb10
         clear hc10 hEs9
         go_wp2_with fail
         refine (IH.out _ _ (sl ++ [[(ep:Int),0]]) fl ((v.J j).E 2) _ heo FS10.bel FS10.bx FS10.own FS10.rt FS10.li FS10.fl hso'.out (by rw [hsl'];omega) (by rw [hsl'];omega)).mono ?_
         intro r11 w11 P11
         have P12:=flankP_on FS10 HFL.out P11
         obtain ⟨rfl,P13⟩:=P12
         have HP:Hid (FlankP v w0 pa pc (some ⟨b2,off2,none⟩) jc sa sc bf br out tries li atj a0 a1 a2 (.slice al li.length cl) a4 a5 a6 (f+1) (.slice as' sl.length cs') (.slice af fl.length cf) sl fl ⟨ep,0⟩ w (.returned (.tuple #[])) w11):=⟨rfl,P13⟩
         clear P13 P11
         go_wp2_with fail
         first
          | (go_end0;exact HP.out)
          | (refine bodyPost_ret (results_none rfl _ _ _) rfl ?_;exact HP.out)
      ·have HFL:Hid (v.fl li atj (f+1) sl ⟨ep,0⟩=(sl ++ [[(ep:Int),0]],[[atj,2,(bb:Int),0]])):=fl_sig Hm.out hlast
       rw [show bestV (some bb)=(bb:Int) from rfl]
       clear hlast
       go_wp2_with (at_builtin;go_must (refine wpList_appH _ rfl (.tmp 108) (.tmp 112) 62 rfl w0.heap.size 155 i6 _ 4 32 Tryz.underlying62 e61 e62 e63 e64 rfl (by decide) _ fl rfl (FS2.out.fl.alloc _) ⟨wr.heap.size,0,none⟩ 1 1 [[atj,2,(bb:Int),0]] rfl rfl (by decide) (Wide.one rfl) (news_at [atj,2,(bb:Int),0] rfl) (by simp [maxLen];omega) (by omega) (by simp;omega) ?_))
       refine Halt.mk fun v3 w3 ho3 _ hap3=>?_
       obtain ⟨a3',c3',rfl⟩:=ho3.val
       rw [List.length_append] at ho3 hap3
       have r3:Box w3 br 64 #[a0,a1,a2,(.slice al li.length cl),a4,a5,a6,.slice af fl.length cf]:=(FS2.out.rt.alloc _).grown hap3.fr (fun e=>FS2.out.fl.off FS2.out.rt (by decide) e rfl)
       have t3:=r3.free 7
       have u3:w3.cell? ⟨br,7,none⟩=some (.slice af fl.length cf):=r3.cell 7
       have FP:=flankP_one FS2.out HFL.out hbr hne ho3 hap3
       have HFP:Hid (FlankP v w0 pa pc ja jc sa sc bf br out tries li atj a0 a1 a2 (.slice al li.length cl) a4 a5 a6 (f+1) (.slice as' sl.length cs') (.slice af fl.length cf) sl fl ⟨ep,0⟩ w (.returned (.tuple #[])) (w3.setCell ⟨br,7,none⟩ (.slice a3' (fl.length+1) c3'))):=FP
       clear r3 FP hap3 ho3
       go_wp2_with fail
       refine bodyPost_ret (results_none rfl _ _ _) rfl ?_
       exact HFP.out
end Go.Proofs.YtkhaehpobpkkiaaGreat
