import Derived.Test.YtkhaehpobpkkiaaGreatIb
namespace Go.Proofs.YtkhaehpobpkkiaaGreat
open Go.RowKit
set_option maxRecDepth 100000 in
set_option maxHeartbeats 8000000 in
theorem behind73 {v:Ev}(ok:v.Ok){bt:Nat}{pa:Option Addr}{pc:Nat}{ja:Option Addr}{jc:Nat}{sa:Option Addr}{sc:Nat}(nm:ByteArray)(p0:Nat)(sp way0:Int)(w:World)(h:TkAt w bt v pa pc ja jc sa sc)(hp:p0<v.n)(hw:way0=1∨way0=-1)(hsp:1≤sp∧sp≤(v.P p0).ln-1):
 Calls Tryz.prog 73 #[.pointer (some ⟨bt,0,none⟩),.agg #[.string nm,.int .i64 p0,.int .i64 sp,.int .i64 way0],.int .i64 v.ov] w fun e w'=>∃ r,e=.returned r∧Own w.heap.size 104 3 w' r (v.bey v.ov.toNat v.ov p0 way0 (farI (v.P p0).ln sp way0))∧Below w.heap.size w w':=by
 have OK:Hid v.Ok:=ok
 have HT:Hid (TkAt w bt v pa pc ja jc sa sc):=h
 have ho0:=ok.o0
 have ho1:=ok.o1
 have hn1:=ok.n1
 have hm1:=ok.m1
 have hln0:=ok.ln p0 hp
 have hf0:0≤farI (v.P p0).ln sp way0∧farI (v.P p0).ln sp way0<(v.P p0).ln:=by
  unfold farI
  split <;> omega
 obtain ⟨i4,k1,k2,k3,k4⟩:=info_parts infoPart
 clear h ok
 go_enter Tryz.func73,Tryz.ntmps73
 go_wp2_with fail
 have b0:=bel2 w (.cells #[.string nm,.int .i64 p0,.int .i64 sp,.int .i64 way0] 56) (.cells #[.int .i64 p0,.int .i64 way0] 100)
 have S0:Box ((w.alloc (.cells #[.string nm,.int .i64 p0,.int .i64 sp,.int .i64 way0] 56)).alloc (.cells #[.int .i64 p0,.int .i64 way0] 100)) (w.heap.size+1) 100 #[.int .i64 (p0:Int),.int .i64 way0]:=by
  have:=Box.new (w.alloc (.cells #[.string nm,.int .i64 p0,.int .i64 sp,.int .i64 way0] 56)) 100 #[.int .i64 (p0:Int),.int .i64 way0]
  simpa using this
 refine (along68 OK.out p0 way0 sp _ (HT.out.mono b0 lr) hp (by omega)).mono ?_
 rintro e w1 ⟨rfl,hb1⟩
 have B1:=b0.trans (hb1.mono b0.size)
 have HS1:Hid (Box w1 (w.heap.size+1) 100 #[.int .i64 (p0:Int),.int .i64 way0]):=S0.mono hb1 lr
 clear b0 S0 hb1
 generalize hfar:farI (v.P p0).ln sp way0=far0 at *
 have HFAR:Hid (farI (v.P p0).ln sp way0=far0):=hfar
 clear hfar
 go_wp2_with fail
 go_loopw [2,7,9] (fun s2 s7 s9 wr=>∃ (p:Nat) (way far left:Int) (a:Option Addr) (cap f:Nat) (lo:List Rw),s2=.int .i64 left∧s7=.slice a lo.length cap∧s9=.int .i64 far∧p<v.n∧(way=1∨way=-1)∧0≤far∧far<(v.P p).ln∧0≤left∧left≤f∧f≤100000∧lo.length+f≤100000∧Hid (lo ++ v.bey f left p way far=v.bey v.ov.toNat v.ov p0 way0 far0)∧Hid (Own (w.heap.size+1+1) 104 3 wr (.slice a lo.length cap) lo)∧Hid (Box wr (w.heap.size+1) 100 #[.int .i64 (p:Int),.int .i64 way])∧Below w.heap.size w wr) (fun s2 _ _ _=>(intOf s2).toNat)
 case atStart=>exact ⟨p0,way0,far0,v.ov,none,0,v.ov.toNat,[],rfl,rfl,rfl,hp,hw,hf0.1,hf0.2,ho0,by omega,by omega,by simp;omega,rfl,Own.nil _ _ _ _,HS1,B1⟩
 case round=>
  obtain ⟨p,way,far,left,a,cap,f,lo,rfl,rfl,rfl,hpn,hway,hf0',hf1,hl0,hlf,hf9,hlo,HE,HO,HS,hbel⟩:=hrel
  clear HS1
  by_cases hl:left≤0
  ·have HV:Hid (lo=v.bey v.ov.toNat v.ov p0 way0 far0):=by
    show lo=_
    rw [← HE.out,bey_zero hl,List.append_nil]
   have hl':left=0:=by omega
   subst hl'
   clear HE
   go_wp2_with fail
   go_ret
   exact ⟨_,rfl,by rw [HFAR.out,← HV.out];exact HO.out.keep (by omega) (fun _ _=>rfl),hbel⟩
  ·obtain ⟨g,rfl⟩:∃ g,f=g+1:=⟨f-1,by omega⟩
   rw [bey_succ hl] at HE
   have hln:=OK.out.ln p hpn
   have hl9:0<left:=by omega
   have T1:Hid (TkAt wr bt v pa pc ja jc sa sc):=HT.out.mono hbel lr
   have x0:wr.cell? ⟨w.heap.size+1,0,none⟩=some (.int .i64 (p:Int)):=HS.out.cell 0
   have x1:wr.cell? ⟨w.heap.size+1,1,none⟩=some (.int .i64 way):=HS.out.cell 1
   go_wp2_with fail
   refine (long97 OK.out p way _ T1.out hpn).mono ?_
   rintro e w2 ⟨rfl,hb2⟩
   have B2:=hbel.trans (hb2.mono hbel.size)
   have HS2:Hid (Box w2 (w.heap.size+1) 100 #[.int .i64 (p:Int),.int .i64 way]):=HS.out.mono hb2 lr
   have HO2:Hid (Own (w.heap.size+1+1) 104 3 w2 (.slice a lo.length cap) lo):=HO.out.mono lr hb2 lr
   have T2:Hid (TkAt w2 bt v pa pc ja jc sa sc):=T1.out.mono hb2 lr
   have z2:=hb2.size
   have hsl:=HS.out.lt
   clear x0 x1 hb2 T1 HS HO
   have y0:w2.cell? ⟨w.heap.size+1,0,none⟩=some (.int .i64 (p:Int)):=HS2.out.cell 0
   have y1:w2.cell? ⟨w.heap.size+1,1,none⟩=some (.int .i64 way):=HS2.out.cell 1
   by_cases h5:left≤(v.P p).ln-far
   ·have hee:endF (v.P p).ln far left=far+left:=by unfold endF;rw [if_neg (by omega)]
    rw [hee] at HE
    go_wp2_with fail
    refine (part96 OK.out p way far (far+left) _ T2.out hpn hway (by omega) (by omega)).mono ?_
    rintro e w3 ⟨rfl,hb3⟩
    have B3:=B2.trans (hb3.mono B2.size)
    have HS3:Hid (Box w3 (w.heap.size+1) 100 #[.int .i64 (p:Int),.int .i64 way]):=HS2.out.mono hb3 lr
    have HO3:Hid (Own (w.heap.size+1+1) 104 3 w3 (.slice a lo.length cap) lo):=HO2.out.mono lr hb3 lr
    have z3:=hb3.size
    have HPR:Hid (partR (v.P p).ln p way far (far+left)=[(p:Int),(partF (v.P p).ln way far (far+left)).1,(partF (v.P p).ln way far (far+left)).2]):=rfl
    rw [HPR.out] at HE
    generalize (partF (v.P p).ln way far (far+left)).1=q1 at *
    generalize (partF (v.P p).ln way far (far+left)).2=q2 at *
    clear y0 y1 hb3 HS2 HO2 T2 B2 HPR
    go_wp2_with (at_builtin;go_must (refine wpList_appH _ rfl (.tmp 31) (.tmp 39) 61 rfl (w.heap.size+1+1) 104 i4 _ 3 24 Tryz.underlying61 k1 k2 k3 k4 rfl (by decide) _ lo rfl (HO3.out.alloc _) ⟨w3.heap.size,0,none⟩ 1 1 [[(p:Int),q1,q2]] rfl rfl (by decide) (Wide.one rfl) (news_at [(p:Int),q1,q2] rfl) (by simp [maxLen];omega) (by omega) (by simp;omega) ?_))
    refine Halt.mk fun v4 w4 ho4 _ hap=>?_
    obtain ⟨a4,c4,rfl⟩:=ho4.val
    have B4:Below w.heap.size w w4:=(B3.alloc B3.size _).grown hap.fr (by have:=B3.size;simp;omega) (fun g e=>by have:=(HO3.out.lt e).1;omega)
    have HS4:Hid (Box w4 (w.heap.size+1) 100 #[.int .i64 (p:Int),.int .i64 way]):=(HS3.out.alloc _).grown hap.fr (fun e=>by have:=(HO3.out.lt e).1;omega)
    have HO4:Hid (Own (w.heap.size+1+1) 104 3 w4 (.slice a4 (lo.length+1) c4) (lo ++ [[(p:Int),q1,q2]])):=by rw [List.length_append] at ho4;exact ho4
    have T4:Hid (TkAt w4 bt v pa pc ja jc sa sc):=HT.out.mono B4 lr
    have u0:w4.cell? ⟨w.heap.size+1,0,none⟩=some (.int .i64 (p:Int)):=HS4.out.cell 0
    have u1:w4.cell? ⟨w.heap.size+1,1,none⟩=some (.int .i64 way):=HS4.out.cell 1
    rw [List.length_append]
    clear ho4 hap HO3 HS3 B3
    go_wp2_with fail
    refine (ahead98 OK.out p way _ T4.out hpn hway).mono ?_
    rintro e w5 ⟨rfl,hb5⟩
    obtain ⟨j,q,hat,_,hjm,hqn,_,hk1,hk2,hk3⟩:=OK.out.there (headE_ok p way).1 (by rw [(headE_ok p way).2.1];omega) (headE_ok p way).2.2
    rw [hat] at HE ⊢
    have B5:=B4.trans (hb5.mono B4.size)
    have HS5:Hid (Box w5 (w.heap.size+1) 100 #[.int .i64 (p:Int),.int .i64 way]):=HS4.out.mono hb5 lr
    have HO5:Hid (Own (w.heap.size+1+1) 104 3 w5 (.slice a4 (lo.length+1) c4) (lo ++ [[(p:Int),q1,q2]])):=HO4.out.mono lr hb5 lr
    have T5:Hid (TkAt w5 bt v pa pc ja jc sa sc):=T4.out.mono hb5 lr
    have HS5l:=HS5.out.lt
    clear u0 u1 hb5 HS4 HO4 T4 B4 hat
    have c6:=bel1 w5 (.cells #[.int .i64 (j:Int),.int .i64 (q:Int)] 128)
    have B6:=B5.trans (c6.mono B5.size)
    have t1:=T5.out.j
    have htl:=T5.out.lt
    obtain ⟨jb,joff,rfl,_,hjb,hjc⟩:=HT.out.net.j (by omega)
    obtain ⟨ea,ec,d0,d1,d2,hEs⟩:=hjc j hjm
    have HEs:Hid (EsAt 0 w ea (v.J j).ne (v.J j).E):=hEs
    have d0:=cell_keep B5 hjb d0
    have d1:=cell_keep B5 hjb d1
    have d2:=cell_keep B5 hjb d2
    have hjb5:jb<w5.heap.size:=ltl hjb B5.size
    have hji:(j:Int)<(v.m:Int):=by omega
    have hj0:(0:Int)≤(j:Int):=by omega
    have HO6:Hid (Own (w.heap.size+1+1) 104 3 (w5.alloc (.cells #[.int .i64 (j:Int),.int .i64 (q:Int)] 128)) (.slice a4 (lo.length+1) c4) (lo ++ [[(p:Int),q1,q2]])):=HO5.out.alloc _
    clear hjc hEs
    by_cases hkd:(v.J j).kd=2
    ·have hkd':((v.J j).kd == 2)=true:=by simp [hkd]
     have hkdn:((v.J j).kd != 2)=false:=by simp [hkd]
     rcases (show q=0∨q=1 by omega) with rfl | rfl
     ·obtain ⟨b2,off2,rfl,_,hb2,hc2⟩:=HEs.out (by omega)
      have hrn:1<(v.J j).ne:=by omega
      have s0:w.cell? ⟨b2,off2+2,none⟩=some (.int .i64 ((v.J j).E 1).pc):=(hc2 1 hrn).1
      have s1:w.cell? ⟨b2,off2+2+1,none⟩=some (.int .i64 ((v.J j).E 1).sd):=(hc2 1 hrn).2
      obtain ⟨p2,p3,p4⟩:=OK.out.en j hjm 1 hrn
      obtain ⟨pN,hpN⟩:∃ pN:Nat,((v.J j).E 1).pc=(pN:Int):=⟨((v.J j).E 1).pc.toNat,by omega⟩
      have hpNn:pN<v.n:=by omega
      have hpNl:=OK.out.ln pN hpNn
      rw [hpN] at s0
      obtain ⟨sd,hsd⟩:∃ sd,((v.J j).E 1).sd=sd:=⟨_,rfl⟩
      rw [hsd] at s1 p4
      have s0:=cell_keep B5 hb2 s0
      have s1:=cell_keep B5 hb2 s1
      have hb25:b2<w5.heap.size:=ltl hb2 B5.size
      have ne1:¬jb=w.heap.size+1:=by omega
      have ne2:¬w.heap.size+1=jb:=by omega
      have ne3:¬b2=w.heap.size+1:=by omega
      have ne4:¬w.heap.size+1=b2:=by omega
      have ne5:¬w5.heap.size=w.heap.size+1:=by omega
      have ne6:¬w.heap.size+1=w5.heap.size:=by omega
      have HWY:Hid (wayOf ((v.J j).E 1)=wayOf ⟨(pN:Int),sd⟩):=by show _=_;simp [wayOf,hsd]
      have HPN:Hid (((v.J j).E 1).pc.toNat=pN):=by show _=_;omega
      have HE9:Hid ((lo ++ [[(p:Int),q1,q2]]) ++ v.bey g (left-left) pN (wayOf ⟨(pN:Int),sd⟩) 0=v.bey v.ov.toNat v.ov p0 way0 far0):=by
       have h9:=HE.out
       have h8:far+left-far=left:=by omega
       rw [h8,show 1-0=1 from rfl,HPN.out,HWY.out] at h9
       show _=_
       by_cases h7:left-left≤0
       ·rw [if_pos (.inl h7)] at h9
        rw [bey_zero h7,List.append_nil]
        exact h9
       ·rw [if_neg (fun hh=>hh.elim h7 (fun hh=>hh hkd))] at h9
        rw [List.append_assoc]
        exact h9
      have hwy9:=wayOf_ok ⟨(pN:Int),sd⟩
      clear hc2 p2 p3 HE hpN hsd HWY HPN
      go_wp2_with fail
      go_quiet (fail)
      go_wp2_with fail
      obtain ⟨W6,hW6⟩:∃ W6,W6=(w5.alloc (.cells #[.int .i64 (j:Int),.int .i64 (0:Int)] 128)).drewN nq:=⟨_,rfl⟩
      have c6n:Below w5.heap.size w5 W6:=by rw [hW6];exact below_drewN c6 nq
      have a0:W6.cell? ⟨w5.heap.size,0,none⟩=some (.int .i64 (j:Int)):=by rw [hW6];simp
      have a1:W6.cell? ⟨w5.heap.size,1,none⟩=some (.int .i64 (0:Int)):=by rw [hW6];simp
      have hz6:w5.heap.size<W6.heap.size:=by rw [hW6];simp
      rw [← hW6]
      clear hW6
      have a2:=cell_keep c6n htl t1
      have a3:=cell_keep c6n hjb5 d2
      have a4':=cell_keep c6n hb25 s0
      have a5:=cell_keep c6n hb25 s1
      have HS6:Hid (Box W6.drew (w.heap.size+1) 100 #[.int .i64 (p:Int),.int .i64 way]):=(HS5.out.mono c6n lr).drew
      have HO6n:Hid (Own (w.heap.size+1+1) 104 3 W6.drew (.slice a4 (lo.length+1) c4) (lo ++ [[(p:Int),q1,q2]])):=HO5.out.mono lr c6n.drew lr
      have B6n:Hid (Below w.heap.size w W6.drew):=(B5.trans (c6n.mono B5.size)).drew
      have l1:bt<W6.heap.size:=ltl htl c6n.size
      have l2:jb<W6.heap.size:=ltl hjb5 c6n.size
      have l3:b2<W6.heap.size:=ltl hb25 c6n.size
      have hne2:(v.J j).ne=2:=by omega
      have hss:w.heap.size+1<W6.heap.size:=HS6.out.lt
      have nn1:¬w.heap.size+1=bt:=fun e=>by
       have:=HT.out.lt
       omega
      have hbtw:=HT.out.lt
      clear t1 d0 d1 d2 s0 s1 c6 HS5 HO5 HO6 T5 c6n B5 B6
      have hi1:(1:Int)<((v.J j).ne:Int):=by omega
      have hi0:(0:Int)<((v.J j).ne:Int):=by omega
      have hv0:IntKind.i64.wrap ((1:Int)-0)=1:=by decide
      have hv1:IntKind.i64.wrap ((1:Int)-1)=0:=by decide
      have hv2:IntKind.i64.wrap (1:Int)=1:=by decide
      have hv3:IntKind.i64.wrap (0:Int)=0:=by decide
      go_region_held3 (fun w'=>w'.cell? ⟨bt,1,none⟩=some (.slice (some ⟨jb,joff,none⟩) v.m jc)∧w'.cell? ⟨w5.heap.size,0,none⟩=some (.int .i64 (j:Int))∧w'.cell? ⟨w5.heap.size,1,none⟩=some (.int .i64 (0:Int))∧w'.cell? ⟨jb,joff+j*3+2,none⟩=some (.slice (some ⟨b2,off2,none⟩) (v.J j).ne ec)∧w'.cell? ⟨b2,off2+2,none⟩=some (.int .i64 (pN:Int))∧w'.cell? ⟨b2,off2+2+1,none⟩=some (.int .i64 sd)) (go_keep) (first
       | (go_at_call 101;refine (away101 (pN:Int) sd _ p4).mono ?_;rintro e w7 ⟨rfl,hb7⟩;have m0:w7.cell? ⟨bt,1,none⟩=some (.slice (some ⟨jb,joff,none⟩) v.m jc):=cell_keep hb7 l1 a2;have m1:w7.cell? ⟨w5.heap.size,0,none⟩=some (.int .i64 (j:Int)):=cell_keep hb7 hz6 a0;have m2:w7.cell? ⟨w5.heap.size,1,none⟩=some (.int .i64 (0:Int)):=cell_keep hb7 hz6 a1;have m3:w7.cell? ⟨jb,joff+j*3+2,none⟩=some (.slice (some ⟨b2,off2,none⟩) (v.J j).ne ec):=cell_keep hb7 l2 a3;have m4:w7.cell? ⟨b2,off2+2,none⟩=some (.int .i64 (pN:Int)):=cell_keep hb7 l3 a4';have m5:w7.cell? ⟨b2,off2+2+1,none⟩=some (.int .i64 sd):=cell_keep hb7 l3 a5;have BS:=HS6.out.mono hb7 lr;have n0:w7.cell? ⟨w.heap.size+1,0,none⟩=some (.int .i64 (p:Int)):=BS.cell 0;have n1:w7.cell? ⟨w.heap.size+1,1,none⟩=some (.int .i64 way):=BS.cell 1;have g0:=BS.free 0;have g1:=BS.free 1))
      all_goals
       have HSn:Hid (Box ((w7.setCell ⟨w.heap.size+1,0,none⟩ (.int .i64 (pN:Int))).setCell ⟨w.heap.size+1,1,none⟩ (.int .i64 (wayOf ⟨(pN:Int),sd⟩))) (w.heap.size+1) 100 #[.int .i64 (pN:Int),.int .i64 (wayOf ⟨(pN:Int),sd⟩)]):=(by simpa using (BS.set 0 (.int .i64 (pN:Int))).set 1 (.int .i64 (wayOf ⟨(pN:Int),sd⟩)):Box _ (w.heap.size+1) 100 _)
       have HOn:Hid (Own (w.heap.size+1+1) 104 3 ((w7.setCell ⟨w.heap.size+1,0,none⟩ (.int .i64 (pN:Int))).setCell ⟨w.heap.size+1,1,none⟩ (.int .i64 (wayOf ⟨(pN:Int),sd⟩))) (.slice a4 (lo ++ [[(p:Int),q1,q2]]).length c4) (lo ++ [[(p:Int),q1,q2]])):=by
        rw [List.length_append]
        exact (HO6n.out.mono lr hb7 lr).keep lr fun g hg=>by
         have h2:g≠w.heap.size+1:=by have:=(HO6n.out.lt hg).1;omega
         rw [Below.heap_setCell _ _ _ _ h2,Below.heap_setCell _ _ _ _ h2]
       have hBn:Below w.heap.size w ((w7.setCell ⟨w.heap.size+1,0,none⟩ (.int .i64 (pN:Int))).setCell ⟨w.heap.size+1,1,none⟩ (.int .i64 (wayOf ⟨(pN:Int),sd⟩))):=((B6n.out.trans (hb7.mono B6n.out.size)).setCell (by show w.heap.size≤w.heap.size+1;omega) _).setCell (by show w.heap.size≤w.heap.size+1;omega) _
       clear BS HS6 HO6n B6n hb7 m0 m1 m2 m3 m4 m5 n0 n1 g0 g1 a0 a1 a2 a3 a4' a5
       go_wp2_with fail
       go_roundw
       case rel=>exact ⟨pN,wayOf ⟨(pN:Int),sd⟩,0,left-left,a4,c4,g,lo ++ [[(p:Int),q1,q2]],by first | rfl | simp,by rw [List.length_append];rfl,rfl,hpNn,hwy9,by omega,by omega,by omega,by omega,by omega,by rw [List.length_append];simp only [List.length_cons,List.length_nil];omega,HE9,HOn,HSn,hBn⟩
       case measure=>simp [intOf];omega
     ·obtain ⟨b2,off2,rfl,_,hb2,hc2⟩:=HEs.out (by omega)
      have hrn:0<(v.J j).ne:=by omega
      have s0:w.cell? ⟨b2,off2,none⟩=some (.int .i64 ((v.J j).E 0).pc):=(hc2 0 hrn).1
      have s1:w.cell? ⟨b2,off2+1,none⟩=some (.int .i64 ((v.J j).E 0).sd):=(hc2 0 hrn).2
      obtain ⟨p2,p3,p4⟩:=OK.out.en j hjm 0 hrn
      obtain ⟨pN,hpN⟩:∃ pN:Nat,((v.J j).E 0).pc=(pN:Int):=⟨((v.J j).E 0).pc.toNat,by omega⟩
      have hpNn:pN<v.n:=by omega
      have hpNl:=OK.out.ln pN hpNn
      rw [hpN] at s0
      obtain ⟨sd,hsd⟩:∃ sd,((v.J j).E 0).sd=sd:=⟨_,rfl⟩
      rw [hsd] at s1 p4
      have s0:=cell_keep B5 hb2 s0
      have s1:=cell_keep B5 hb2 s1
      have hb25:b2<w5.heap.size:=ltl hb2 B5.size
      have ne1:¬jb=w.heap.size+1:=by omega
      have ne2:¬w.heap.size+1=jb:=by omega
      have ne3:¬b2=w.heap.size+1:=by omega
      have ne4:¬w.heap.size+1=b2:=by omega
      have ne5:¬w5.heap.size=w.heap.size+1:=by omega
      have ne6:¬w.heap.size+1=w5.heap.size:=by omega
      have HWY:Hid (wayOf ((v.J j).E 0)=wayOf ⟨(pN:Int),sd⟩):=by show _=_;simp [wayOf,hsd]
      have HPN:Hid (((v.J j).E 0).pc.toNat=pN):=by show _=_;omega
      have HE9:Hid ((lo ++ [[(p:Int),q1,q2]]) ++ v.bey g (left-left) pN (wayOf ⟨(pN:Int),sd⟩) 0=v.bey v.ov.toNat v.ov p0 way0 far0):=by
       have h9:=HE.out
       have h8:far+left-far=left:=by omega
       rw [h8,show 1-1=0 from rfl,HPN.out,HWY.out] at h9
       show _=_
       by_cases h7:left-left≤0
       ·rw [if_pos (.inl h7)] at h9
        rw [bey_zero h7,List.append_nil]
        exact h9
       ·rw [if_neg (fun hh=>hh.elim h7 (fun hh=>hh hkd))] at h9
        rw [List.append_assoc]
        exact h9
      have hwy9:=wayOf_ok ⟨(pN:Int),sd⟩
      clear hc2 p2 p3 HE hpN hsd HWY HPN
      go_wp2_with fail
      go_quiet (fail)
      go_wp2_with fail
      obtain ⟨W6,hW6⟩:∃ W6,W6=(w5.alloc (.cells #[.int .i64 (j:Int),.int .i64 (1:Int)] 128)).drewN nq:=⟨_,rfl⟩
      have c6n:Below w5.heap.size w5 W6:=by rw [hW6];exact below_drewN c6 nq
      have a0:W6.cell? ⟨w5.heap.size,0,none⟩=some (.int .i64 (j:Int)):=by rw [hW6];simp
      have a1:W6.cell? ⟨w5.heap.size,1,none⟩=some (.int .i64 (1:Int)):=by rw [hW6];simp
      have hz6:w5.heap.size<W6.heap.size:=by rw [hW6];simp
      rw [← hW6]
      clear hW6
      have a2:=cell_keep c6n htl t1
      have a3:=cell_keep c6n hjb5 d2
      have a4':=cell_keep c6n hb25 s0
      have a5:=cell_keep c6n hb25 s1
      have HS6:Hid (Box W6.drew (w.heap.size+1) 100 #[.int .i64 (p:Int),.int .i64 way]):=(HS5.out.mono c6n lr).drew
      have HO6n:Hid (Own (w.heap.size+1+1) 104 3 W6.drew (.slice a4 (lo.length+1) c4) (lo ++ [[(p:Int),q1,q2]])):=HO5.out.mono lr c6n.drew lr
      have B6n:Hid (Below w.heap.size w W6.drew):=(B5.trans (c6n.mono B5.size)).drew
      have l1:bt<W6.heap.size:=ltl htl c6n.size
      have l2:jb<W6.heap.size:=ltl hjb5 c6n.size
      have l3:b2<W6.heap.size:=ltl hb25 c6n.size
      have hne2:(v.J j).ne=2:=by omega
      have hss:w.heap.size+1<W6.heap.size:=HS6.out.lt
      have nn1:¬w.heap.size+1=bt:=fun e=>by
       have:=HT.out.lt
       omega
      have hbtw:=HT.out.lt
      clear t1 d0 d1 d2 s0 s1 c6 HS5 HO5 HO6 T5 c6n B5 B6
      have hi1:(1:Int)<((v.J j).ne:Int):=by omega
      have hi0:(0:Int)<((v.J j).ne:Int):=by omega
      have hv0:IntKind.i64.wrap ((1:Int)-0)=1:=by decide
      have hv1:IntKind.i64.wrap ((1:Int)-1)=0:=by decide
      have hv2:IntKind.i64.wrap (1:Int)=1:=by decide
      have hv3:IntKind.i64.wrap (0:Int)=0:=by decide
      go_region_held3 (fun w'=>w'.cell? ⟨bt,1,none⟩=some (.slice (some ⟨jb,joff,none⟩) v.m jc)∧w'.cell? ⟨w5.heap.size,0,none⟩=some (.int .i64 (j:Int))∧w'.cell? ⟨w5.heap.size,1,none⟩=some (.int .i64 (1:Int))∧w'.cell? ⟨jb,joff+j*3+2,none⟩=some (.slice (some ⟨b2,off2,none⟩) (v.J j).ne ec)∧w'.cell? ⟨b2,off2,none⟩=some (.int .i64 (pN:Int))∧w'.cell? ⟨b2,off2+1,none⟩=some (.int .i64 sd)) (go_keep) (first
       | (go_at_call 101;refine (away101 (pN:Int) sd _ p4).mono ?_;rintro e w7 ⟨rfl,hb7⟩;have m0:w7.cell? ⟨bt,1,none⟩=some (.slice (some ⟨jb,joff,none⟩) v.m jc):=cell_keep hb7 l1 a2;have m1:w7.cell? ⟨w5.heap.size,0,none⟩=some (.int .i64 (j:Int)):=cell_keep hb7 hz6 a0;have m2:w7.cell? ⟨w5.heap.size,1,none⟩=some (.int .i64 (1:Int)):=cell_keep hb7 hz6 a1;have m3:w7.cell? ⟨jb,joff+j*3+2,none⟩=some (.slice (some ⟨b2,off2,none⟩) (v.J j).ne ec):=cell_keep hb7 l2 a3;have m4:w7.cell? ⟨b2,off2,none⟩=some (.int .i64 (pN:Int)):=cell_keep hb7 l3 a4';have m5:w7.cell? ⟨b2,off2+1,none⟩=some (.int .i64 sd):=cell_keep hb7 l3 a5;have BS:=HS6.out.mono hb7 lr;have n0:w7.cell? ⟨w.heap.size+1,0,none⟩=some (.int .i64 (p:Int)):=BS.cell 0;have n1:w7.cell? ⟨w.heap.size+1,1,none⟩=some (.int .i64 way):=BS.cell 1;have g0:=BS.free 0;have g1:=BS.free 1))
      all_goals
       have HSn:Hid (Box ((w7.setCell ⟨w.heap.size+1,0,none⟩ (.int .i64 (pN:Int))).setCell ⟨w.heap.size+1,1,none⟩ (.int .i64 (wayOf ⟨(pN:Int),sd⟩))) (w.heap.size+1) 100 #[.int .i64 (pN:Int),.int .i64 (wayOf ⟨(pN:Int),sd⟩)]):=(by simpa using (BS.set 0 (.int .i64 (pN:Int))).set 1 (.int .i64 (wayOf ⟨(pN:Int),sd⟩)):Box _ (w.heap.size+1) 100 _)
       have HOn:Hid (Own (w.heap.size+1+1) 104 3 ((w7.setCell ⟨w.heap.size+1,0,none⟩ (.int .i64 (pN:Int))).setCell ⟨w.heap.size+1,1,none⟩ (.int .i64 (wayOf ⟨(pN:Int),sd⟩))) (.slice a4 (lo ++ [[(p:Int),q1,q2]]).length c4) (lo ++ [[(p:Int),q1,q2]])):=by
        rw [List.length_append]
        exact (HO6n.out.mono lr hb7 lr).keep lr fun g hg=>by
         have h2:g≠w.heap.size+1:=by have:=(HO6n.out.lt hg).1;omega
         rw [Below.heap_setCell _ _ _ _ h2,Below.heap_setCell _ _ _ _ h2]
       have hBn:Below w.heap.size w ((w7.setCell ⟨w.heap.size+1,0,none⟩ (.int .i64 (pN:Int))).setCell ⟨w.heap.size+1,1,none⟩ (.int .i64 (wayOf ⟨(pN:Int),sd⟩))):=((B6n.out.trans (hb7.mono B6n.out.size)).setCell (by show w.heap.size≤w.heap.size+1;omega) _).setCell (by show w.heap.size≤w.heap.size+1;omega) _
       clear BS HS6 HO6n B6n hb7 m0 m1 m2 m3 m4 m5 n0 n1 g0 g1 a0 a1 a2 a3 a4' a5
       go_wp2_with fail
       go_roundw
       case rel=>exact ⟨pN,wayOf ⟨(pN:Int),sd⟩,0,left-left,a4,c4,g,lo ++ [[(p:Int),q1,q2]],by first | rfl | simp,by rw [List.length_append];rfl,rfl,hpNn,hwy9,by omega,by omega,by omega,by omega,by omega,by rw [List.length_append];simp only [List.length_cons,List.length_nil];omega,HE9,HOn,HSn,hBn⟩
       case measure=>simp [intOf];omega
    ·have hkd':((v.J j).kd == 2)=false:=by simp [hkd]
     have hkdn:((v.J j).kd != 2)=true:=by simp [hkd]
     have HV:Hid (lo ++ [[(p:Int),q1,q2]]=v.bey v.ov.toNat v.ov p0 way0 far0):=by
      have h9:=HE.out
      rw [if_pos (.inr hkd)] at h9
      exact h9
     clear HE hkd
     go_wp2_with fail
     go_quiet (fail)
     go_wp2_with fail
     go_ret
     exact ⟨_,rfl,by rw [HFAR.out,← HV.out];exact (HO6.out.keep (by omega) (fun _ _=>rfl):Own w.heap.size 104 3 _ _ _),below_drewN B6 _⟩
   ·have hee:endF (v.P p).ln far left=far+((v.P p).ln-far):=by unfold endF;rw [if_pos (by omega)];omega
    rw [hee] at HE
    go_wp2_with fail
    refine (part96 OK.out p way far (far+((v.P p).ln-far)) _ T2.out hpn hway (by omega) (by omega)).mono ?_
    rintro e w3 ⟨rfl,hb3⟩
    have B3:=B2.trans (hb3.mono B2.size)
    have HS3:Hid (Box w3 (w.heap.size+1) 100 #[.int .i64 (p:Int),.int .i64 way]):=HS2.out.mono hb3 lr
    have HO3:Hid (Own (w.heap.size+1+1) 104 3 w3 (.slice a lo.length cap) lo):=HO2.out.mono lr hb3 lr
    have z3:=hb3.size
    have HPR:Hid (partR (v.P p).ln p way far (far+((v.P p).ln-far))=[(p:Int),(partF (v.P p).ln way far (far+((v.P p).ln-far))).1,(partF (v.P p).ln way far (far+((v.P p).ln-far))).2]):=rfl
    rw [HPR.out] at HE
    generalize (partF (v.P p).ln way far (far+((v.P p).ln-far))).1=q1 at *
    generalize (partF (v.P p).ln way far (far+((v.P p).ln-far))).2=q2 at *
    clear y0 y1 hb3 HS2 HO2 T2 B2 HPR
    go_wp2_with (at_builtin;go_must (refine wpList_appH _ rfl (.tmp 31) (.tmp 39) 61 rfl (w.heap.size+1+1) 104 i4 _ 3 24 Tryz.underlying61 k1 k2 k3 k4 rfl (by decide) _ lo rfl (HO3.out.alloc _) ⟨w3.heap.size,0,none⟩ 1 1 [[(p:Int),q1,q2]] rfl rfl (by decide) (Wide.one rfl) (news_at [(p:Int),q1,q2] rfl) (by simp [maxLen];omega) (by omega) (by simp;omega) ?_))
    refine Halt.mk fun v4 w4 ho4 _ hap=>?_
    obtain ⟨a4,c4,rfl⟩:=ho4.val
    have B4:Below w.heap.size w w4:=(B3.alloc B3.size _).grown hap.fr (by have:=B3.size;simp;omega) (fun g e=>by have:=(HO3.out.lt e).1;omega)
    have HS4:Hid (Box w4 (w.heap.size+1) 100 #[.int .i64 (p:Int),.int .i64 way]):=(HS3.out.alloc _).grown hap.fr (fun e=>by have:=(HO3.out.lt e).1;omega)
    have HO4:Hid (Own (w.heap.size+1+1) 104 3 w4 (.slice a4 (lo.length+1) c4) (lo ++ [[(p:Int),q1,q2]])):=by rw [List.length_append] at ho4;exact ho4
    have T4:Hid (TkAt w4 bt v pa pc ja jc sa sc):=HT.out.mono B4 lr
    have u0:w4.cell? ⟨w.heap.size+1,0,none⟩=some (.int .i64 (p:Int)):=HS4.out.cell 0
    have u1:w4.cell? ⟨w.heap.size+1,1,none⟩=some (.int .i64 way):=HS4.out.cell 1
    rw [List.length_append]
    clear ho4 hap HO3 HS3 B3
    go_wp2_with fail
    refine (ahead98 OK.out p way _ T4.out hpn hway).mono ?_
    rintro e w5 ⟨rfl,hb5⟩
    obtain ⟨j,q,hat,_,hjm,hqn,_,hk1,hk2,hk3⟩:=OK.out.there (headE_ok p way).1 (by rw [(headE_ok p way).2.1];omega) (headE_ok p way).2.2
    rw [hat] at HE ⊢
    have B5:=B4.trans (hb5.mono B4.size)
    have HS5:Hid (Box w5 (w.heap.size+1) 100 #[.int .i64 (p:Int),.int .i64 way]):=HS4.out.mono hb5 lr
    have HO5:Hid (Own (w.heap.size+1+1) 104 3 w5 (.slice a4 (lo.length+1) c4) (lo ++ [[(p:Int),q1,q2]])):=HO4.out.mono lr hb5 lr
    have T5:Hid (TkAt w5 bt v pa pc ja jc sa sc):=T4.out.mono hb5 lr
    have HS5l:=HS5.out.lt
    clear u0 u1 hb5 HS4 HO4 T4 B4 hat
    have c6:=bel1 w5 (.cells #[.int .i64 (j:Int),.int .i64 (q:Int)] 128)
    have B6:=B5.trans (c6.mono B5.size)
    have t1:=T5.out.j
    have htl:=T5.out.lt
    obtain ⟨jb,joff,rfl,_,hjb,hjc⟩:=HT.out.net.j (by omega)
    obtain ⟨ea,ec,d0,d1,d2,hEs⟩:=hjc j hjm
    have HEs:Hid (EsAt 0 w ea (v.J j).ne (v.J j).E):=hEs
    have d0:=cell_keep B5 hjb d0
    have d1:=cell_keep B5 hjb d1
    have d2:=cell_keep B5 hjb d2
    have hjb5:jb<w5.heap.size:=ltl hjb B5.size
    have hji:(j:Int)<(v.m:Int):=by omega
    have hj0:(0:Int)≤(j:Int):=by omega
    have HO6:Hid (Own (w.heap.size+1+1) 104 3 (w5.alloc (.cells #[.int .i64 (j:Int),.int .i64 (q:Int)] 128)) (.slice a4 (lo.length+1) c4) (lo ++ [[(p:Int),q1,q2]])):=HO5.out.alloc _
    clear hjc hEs
    by_cases hkd:(v.J j).kd=2
    ·have hkd':((v.J j).kd == 2)=true:=by simp [hkd]
     have hkdn:((v.J j).kd != 2)=false:=by simp [hkd]
     rcases (show q=0∨q=1 by omega) with rfl | rfl
     ·obtain ⟨b2,off2,rfl,_,hb2,hc2⟩:=HEs.out (by omega)
      have hrn:1<(v.J j).ne:=by omega
      have s0:w.cell? ⟨b2,off2+2,none⟩=some (.int .i64 ((v.J j).E 1).pc):=(hc2 1 hrn).1
      have s1:w.cell? ⟨b2,off2+2+1,none⟩=some (.int .i64 ((v.J j).E 1).sd):=(hc2 1 hrn).2
      obtain ⟨p2,p3,p4⟩:=OK.out.en j hjm 1 hrn
      obtain ⟨pN,hpN⟩:∃ pN:Nat,((v.J j).E 1).pc=(pN:Int):=⟨((v.J j).E 1).pc.toNat,by omega⟩
      have hpNn:pN<v.n:=by omega
      have hpNl:=OK.out.ln pN hpNn
      rw [hpN] at s0
      obtain ⟨sd,hsd⟩:∃ sd,((v.J j).E 1).sd=sd:=⟨_,rfl⟩
      rw [hsd] at s1 p4
      have s0:=cell_keep B5 hb2 s0
      have s1:=cell_keep B5 hb2 s1
      have hb25:b2<w5.heap.size:=ltl hb2 B5.size
      have ne1:¬jb=w.heap.size+1:=by omega
      have ne2:¬w.heap.size+1=jb:=by omega
      have ne3:¬b2=w.heap.size+1:=by omega
      have ne4:¬w.heap.size+1=b2:=by omega
      have ne5:¬w5.heap.size=w.heap.size+1:=by omega
      have ne6:¬w.heap.size+1=w5.heap.size:=by omega
      have HWY:Hid (wayOf ((v.J j).E 1)=wayOf ⟨(pN:Int),sd⟩):=by show _=_;simp [wayOf,hsd]
      have HPN:Hid (((v.J j).E 1).pc.toNat=pN):=by show _=_;omega
      have HE9:Hid ((lo ++ [[(p:Int),q1,q2]]) ++ v.bey g (left-((v.P p).ln-far)) pN (wayOf ⟨(pN:Int),sd⟩) 0=v.bey v.ov.toNat v.ov p0 way0 far0):=by
       have h9:=HE.out
       have h8:far+((v.P p).ln-far)-far=((v.P p).ln-far):=by omega
       rw [h8,show 1-0=1 from rfl,HPN.out,HWY.out] at h9
       show _=_
       by_cases h7:left-((v.P p).ln-far)≤0
       ·rw [if_pos (.inl h7)] at h9
        rw [bey_zero h7,List.append_nil]
        exact h9
       ·rw [if_neg (fun hh=>hh.elim h7 (fun hh=>hh hkd))] at h9
        rw [List.append_assoc]
        exact h9
      have hwy9:=wayOf_ok ⟨(pN:Int),sd⟩
      clear hc2 p2 p3 HE hpN hsd HWY HPN
      go_wp2_with fail
      go_quiet (fail)
      go_wp2_with fail
      obtain ⟨W6,hW6⟩:∃ W6,W6=(w5.alloc (.cells #[.int .i64 (j:Int),.int .i64 (0:Int)] 128)).drewN nq:=⟨_,rfl⟩
      have c6n:Below w5.heap.size w5 W6:=by rw [hW6];exact below_drewN c6 nq
      have a0:W6.cell? ⟨w5.heap.size,0,none⟩=some (.int .i64 (j:Int)):=by rw [hW6];simp
      have a1:W6.cell? ⟨w5.heap.size,1,none⟩=some (.int .i64 (0:Int)):=by rw [hW6];simp
      have hz6:w5.heap.size<W6.heap.size:=by rw [hW6];simp
      rw [← hW6]
      clear hW6
      have a2:=cell_keep c6n htl t1
      have a3:=cell_keep c6n hjb5 d2
      have a4':=cell_keep c6n hb25 s0
      have a5:=cell_keep c6n hb25 s1
      have HS6:Hid (Box W6.drew (w.heap.size+1) 100 #[.int .i64 (p:Int),.int .i64 way]):=(HS5.out.mono c6n lr).drew
      have HO6n:Hid (Own (w.heap.size+1+1) 104 3 W6.drew (.slice a4 (lo.length+1) c4) (lo ++ [[(p:Int),q1,q2]])):=HO5.out.mono lr c6n.drew lr
      have B6n:Hid (Below w.heap.size w W6.drew):=(B5.trans (c6n.mono B5.size)).drew
      have l1:bt<W6.heap.size:=ltl htl c6n.size
      have l2:jb<W6.heap.size:=ltl hjb5 c6n.size
      have l3:b2<W6.heap.size:=ltl hb25 c6n.size
      have hne2:(v.J j).ne=2:=by omega
      have hss:w.heap.size+1<W6.heap.size:=HS6.out.lt
      have nn1:¬w.heap.size+1=bt:=fun e=>by
       have:=HT.out.lt
       omega
      have hbtw:=HT.out.lt
      clear t1 d0 d1 d2 s0 s1 c6 HS5 HO5 HO6 T5 c6n B5 B6
      have hi1:(1:Int)<((v.J j).ne:Int):=by omega
      have hi0:(0:Int)<((v.J j).ne:Int):=by omega
      have hv0:IntKind.i64.wrap ((1:Int)-0)=1:=by decide
      have hv1:IntKind.i64.wrap ((1:Int)-1)=0:=by decide
      have hv2:IntKind.i64.wrap (1:Int)=1:=by decide
      have hv3:IntKind.i64.wrap (0:Int)=0:=by decide
      go_region_held3 (fun w'=>w'.cell? ⟨bt,1,none⟩=some (.slice (some ⟨jb,joff,none⟩) v.m jc)∧w'.cell? ⟨w5.heap.size,0,none⟩=some (.int .i64 (j:Int))∧w'.cell? ⟨w5.heap.size,1,none⟩=some (.int .i64 (0:Int))∧w'.cell? ⟨jb,joff+j*3+2,none⟩=some (.slice (some ⟨b2,off2,none⟩) (v.J j).ne ec)∧w'.cell? ⟨b2,off2+2,none⟩=some (.int .i64 (pN:Int))∧w'.cell? ⟨b2,off2+2+1,none⟩=some (.int .i64 sd)) (go_keep) (first
       | (go_at_call 101;refine (away101 (pN:Int) sd _ p4).mono ?_;rintro e w7 ⟨rfl,hb7⟩;have m0:w7.cell? ⟨bt,1,none⟩=some (.slice (some ⟨jb,joff,none⟩) v.m jc):=cell_keep hb7 l1 a2;have m1:w7.cell? ⟨w5.heap.size,0,none⟩=some (.int .i64 (j:Int)):=cell_keep hb7 hz6 a0;have m2:w7.cell? ⟨w5.heap.size,1,none⟩=some (.int .i64 (0:Int)):=cell_keep hb7 hz6 a1;have m3:w7.cell? ⟨jb,joff+j*3+2,none⟩=some (.slice (some ⟨b2,off2,none⟩) (v.J j).ne ec):=cell_keep hb7 l2 a3;have m4:w7.cell? ⟨b2,off2+2,none⟩=some (.int .i64 (pN:Int)):=cell_keep hb7 l3 a4';have m5:w7.cell? ⟨b2,off2+2+1,none⟩=some (.int .i64 sd):=cell_keep hb7 l3 a5;have BS:=HS6.out.mono hb7 lr;have n0:w7.cell? ⟨w.heap.size+1,0,none⟩=some (.int .i64 (p:Int)):=BS.cell 0;have n1:w7.cell? ⟨w.heap.size+1,1,none⟩=some (.int .i64 way):=BS.cell 1;have g0:=BS.free 0;have g1:=BS.free 1))
      all_goals
       have HSn:Hid (Box ((w7.setCell ⟨w.heap.size+1,0,none⟩ (.int .i64 (pN:Int))).setCell ⟨w.heap.size+1,1,none⟩ (.int .i64 (wayOf ⟨(pN:Int),sd⟩))) (w.heap.size+1) 100 #[.int .i64 (pN:Int),.int .i64 (wayOf ⟨(pN:Int),sd⟩)]):=(by simpa using (BS.set 0 (.int .i64 (pN:Int))).set 1 (.int .i64 (wayOf ⟨(pN:Int),sd⟩)):Box _ (w.heap.size+1) 100 _)
       have HOn:Hid (Own (w.heap.size+1+1) 104 3 ((w7.setCell ⟨w.heap.size+1,0,none⟩ (.int .i64 (pN:Int))).setCell ⟨w.heap.size+1,1,none⟩ (.int .i64 (wayOf ⟨(pN:Int),sd⟩))) (.slice a4 (lo ++ [[(p:Int),q1,q2]]).length c4) (lo ++ [[(p:Int),q1,q2]])):=by
        rw [List.length_append]
        exact (HO6n.out.mono lr hb7 lr).keep lr fun g hg=>by
         have h2:g≠w.heap.size+1:=by have:=(HO6n.out.lt hg).1;omega
         rw [Below.heap_setCell _ _ _ _ h2,Below.heap_setCell _ _ _ _ h2]
       have hBn:Below w.heap.size w ((w7.setCell ⟨w.heap.size+1,0,none⟩ (.int .i64 (pN:Int))).setCell ⟨w.heap.size+1,1,none⟩ (.int .i64 (wayOf ⟨(pN:Int),sd⟩))):=((B6n.out.trans (hb7.mono B6n.out.size)).setCell (by show w.heap.size≤w.heap.size+1;omega) _).setCell (by show w.heap.size≤w.heap.size+1;omega) _
       clear BS HS6 HO6n B6n hb7 m0 m1 m2 m3 m4 m5 n0 n1 g0 g1 a0 a1 a2 a3 a4' a5
       go_wp2_with fail
       go_roundw
       case rel=>exact ⟨pN,wayOf ⟨(pN:Int),sd⟩,0,left-((v.P p).ln-far),a4,c4,g,lo ++ [[(p:Int),q1,q2]],by first | rfl | simp,by rw [List.length_append];rfl,rfl,hpNn,hwy9,by omega,by omega,by omega,by omega,by omega,by rw [List.length_append];simp only [List.length_cons,List.length_nil];omega,HE9,HOn,HSn,hBn⟩
       case measure=>simp [intOf];omega
     ·obtain ⟨b2,off2,rfl,_,hb2,hc2⟩:=HEs.out (by omega)
      have hrn:0<(v.J j).ne:=by omega
      have s0:w.cell? ⟨b2,off2,none⟩=some (.int .i64 ((v.J j).E 0).pc):=(hc2 0 hrn).1
      have s1:w.cell? ⟨b2,off2+1,none⟩=some (.int .i64 ((v.J j).E 0).sd):=(hc2 0 hrn).2
      obtain ⟨p2,p3,p4⟩:=OK.out.en j hjm 0 hrn
      obtain ⟨pN,hpN⟩:∃ pN:Nat,((v.J j).E 0).pc=(pN:Int):=⟨((v.J j).E 0).pc.toNat,by omega⟩
      have hpNn:pN<v.n:=by omega
      have hpNl:=OK.out.ln pN hpNn
      rw [hpN] at s0
      obtain ⟨sd,hsd⟩:∃ sd,((v.J j).E 0).sd=sd:=⟨_,rfl⟩
      rw [hsd] at s1 p4
      have s0:=cell_keep B5 hb2 s0
      have s1:=cell_keep B5 hb2 s1
      have hb25:b2<w5.heap.size:=ltl hb2 B5.size
      have ne1:¬jb=w.heap.size+1:=by omega
      have ne2:¬w.heap.size+1=jb:=by omega
      have ne3:¬b2=w.heap.size+1:=by omega
      have ne4:¬w.heap.size+1=b2:=by omega
      have ne5:¬w5.heap.size=w.heap.size+1:=by omega
      have ne6:¬w.heap.size+1=w5.heap.size:=by omega
      have HWY:Hid (wayOf ((v.J j).E 0)=wayOf ⟨(pN:Int),sd⟩):=by show _=_;simp [wayOf,hsd]
      have HPN:Hid (((v.J j).E 0).pc.toNat=pN):=by show _=_;omega
      have HE9:Hid ((lo ++ [[(p:Int),q1,q2]]) ++ v.bey g (left-((v.P p).ln-far)) pN (wayOf ⟨(pN:Int),sd⟩) 0=v.bey v.ov.toNat v.ov p0 way0 far0):=by
       have h9:=HE.out
       have h8:far+((v.P p).ln-far)-far=((v.P p).ln-far):=by omega
       rw [h8,show 1-1=0 from rfl,HPN.out,HWY.out] at h9
       show _=_
       by_cases h7:left-((v.P p).ln-far)≤0
       ·rw [if_pos (.inl h7)] at h9
        rw [bey_zero h7,List.append_nil]
        exact h9
       ·rw [if_neg (fun hh=>hh.elim h7 (fun hh=>hh hkd))] at h9
        rw [List.append_assoc]
        exact h9
      have hwy9:=wayOf_ok ⟨(pN:Int),sd⟩
      clear hc2 p2 p3 HE hpN hsd HWY HPN
      go_wp2_with fail
      go_quiet (fail)
      go_wp2_with fail
      obtain ⟨W6,hW6⟩:∃ W6,W6=(w5.alloc (.cells #[.int .i64 (j:Int),.int .i64 (1:Int)] 128)).drewN nq:=⟨_,rfl⟩
      have c6n:Below w5.heap.size w5 W6:=by rw [hW6];exact below_drewN c6 nq
      have a0:W6.cell? ⟨w5.heap.size,0,none⟩=some (.int .i64 (j:Int)):=by rw [hW6];simp
      have a1:W6.cell? ⟨w5.heap.size,1,none⟩=some (.int .i64 (1:Int)):=by rw [hW6];simp
      have hz6:w5.heap.size<W6.heap.size:=by rw [hW6];simp
      rw [← hW6]
      clear hW6
      have a2:=cell_keep c6n htl t1
      have a3:=cell_keep c6n hjb5 d2
      have a4':=cell_keep c6n hb25 s0
      have a5:=cell_keep c6n hb25 s1
      have HS6:Hid (Box W6.drew (w.heap.size+1) 100 #[.int .i64 (p:Int),.int .i64 way]):=(HS5.out.mono c6n lr).drew
      have HO6n:Hid (Own (w.heap.size+1+1) 104 3 W6.drew (.slice a4 (lo.length+1) c4) (lo ++ [[(p:Int),q1,q2]])):=HO5.out.mono lr c6n.drew lr
      have B6n:Hid (Below w.heap.size w W6.drew):=(B5.trans (c6n.mono B5.size)).drew
      have l1:bt<W6.heap.size:=ltl htl c6n.size
      have l2:jb<W6.heap.size:=ltl hjb5 c6n.size
      have l3:b2<W6.heap.size:=ltl hb25 c6n.size
      have hne2:(v.J j).ne=2:=by omega
      have hss:w.heap.size+1<W6.heap.size:=HS6.out.lt
      have nn1:¬w.heap.size+1=bt:=fun e=>by
       have:=HT.out.lt
       omega
      have hbtw:=HT.out.lt
      clear t1 d0 d1 d2 s0 s1 c6 HS5 HO5 HO6 T5 c6n B5 B6
      have hi1:(1:Int)<((v.J j).ne:Int):=by omega
      have hi0:(0:Int)<((v.J j).ne:Int):=by omega
      have hv0:IntKind.i64.wrap ((1:Int)-0)=1:=by decide
      have hv1:IntKind.i64.wrap ((1:Int)-1)=0:=by decide
      have hv2:IntKind.i64.wrap (1:Int)=1:=by decide
      have hv3:IntKind.i64.wrap (0:Int)=0:=by decide
      go_region_held3 (fun w'=>w'.cell? ⟨bt,1,none⟩=some (.slice (some ⟨jb,joff,none⟩) v.m jc)∧w'.cell? ⟨w5.heap.size,0,none⟩=some (.int .i64 (j:Int))∧w'.cell? ⟨w5.heap.size,1,none⟩=some (.int .i64 (1:Int))∧w'.cell? ⟨jb,joff+j*3+2,none⟩=some (.slice (some ⟨b2,off2,none⟩) (v.J j).ne ec)∧w'.cell? ⟨b2,off2,none⟩=some (.int .i64 (pN:Int))∧w'.cell? ⟨b2,off2+1,none⟩=some (.int .i64 sd)) (go_keep) (first
       | (go_at_call 101;refine (away101 (pN:Int) sd _ p4).mono ?_;rintro e w7 ⟨rfl,hb7⟩;have m0:w7.cell? ⟨bt,1,none⟩=some (.slice (some ⟨jb,joff,none⟩) v.m jc):=cell_keep hb7 l1 a2;have m1:w7.cell? ⟨w5.heap.size,0,none⟩=some (.int .i64 (j:Int)):=cell_keep hb7 hz6 a0;have m2:w7.cell? ⟨w5.heap.size,1,none⟩=some (.int .i64 (1:Int)):=cell_keep hb7 hz6 a1;have m3:w7.cell? ⟨jb,joff+j*3+2,none⟩=some (.slice (some ⟨b2,off2,none⟩) (v.J j).ne ec):=cell_keep hb7 l2 a3;have m4:w7.cell? ⟨b2,off2,none⟩=some (.int .i64 (pN:Int)):=cell_keep hb7 l3 a4';have m5:w7.cell? ⟨b2,off2+1,none⟩=some (.int .i64 sd):=cell_keep hb7 l3 a5;have BS:=HS6.out.mono hb7 lr;have n0:w7.cell? ⟨w.heap.size+1,0,none⟩=some (.int .i64 (p:Int)):=BS.cell 0;have n1:w7.cell? ⟨w.heap.size+1,1,none⟩=some (.int .i64 way):=BS.cell 1;have g0:=BS.free 0;have g1:=BS.free 1))
      all_goals
       have HSn:Hid (Box ((w7.setCell ⟨w.heap.size+1,0,none⟩ (.int .i64 (pN:Int))).setCell ⟨w.heap.size+1,1,none⟩ (.int .i64 (wayOf ⟨(pN:Int),sd⟩))) (w.heap.size+1) 100 #[.int .i64 (pN:Int),.int .i64 (wayOf ⟨(pN:Int),sd⟩)]):=(by simpa using (BS.set 0 (.int .i64 (pN:Int))).set 1 (.int .i64 (wayOf ⟨(pN:Int),sd⟩)):Box _ (w.heap.size+1) 100 _)
       have HOn:Hid (Own (w.heap.size+1+1) 104 3 ((w7.setCell ⟨w.heap.size+1,0,none⟩ (.int .i64 (pN:Int))).setCell ⟨w.heap.size+1,1,none⟩ (.int .i64 (wayOf ⟨(pN:Int),sd⟩))) (.slice a4 (lo ++ [[(p:Int),q1,q2]]).length c4) (lo ++ [[(p:Int),q1,q2]])):=by
        rw [List.length_append]
        exact (HO6n.out.mono lr hb7 lr).keep lr fun g hg=>by
         have h2:g≠w.heap.size+1:=by have:=(HO6n.out.lt hg).1;omega
         rw [Below.heap_setCell _ _ _ _ h2,Below.heap_setCell _ _ _ _ h2]
       have hBn:Below w.heap.size w ((w7.setCell ⟨w.heap.size+1,0,none⟩ (.int .i64 (pN:Int))).setCell ⟨w.heap.size+1,1,none⟩ (.int .i64 (wayOf ⟨(pN:Int),sd⟩))):=((B6n.out.trans (hb7.mono B6n.out.size)).setCell (by show w.heap.size≤w.heap.size+1;omega) _).setCell (by show w.heap.size≤w.heap.size+1;omega) _
       clear BS HS6 HO6n B6n hb7 m0 m1 m2 m3 m4 m5 n0 n1 g0 g1 a0 a1 a2 a3 a4' a5
       go_wp2_with fail
       go_roundw
       case rel=>exact ⟨pN,wayOf ⟨(pN:Int),sd⟩,0,left-((v.P p).ln-far),a4,c4,g,lo ++ [[(p:Int),q1,q2]],by first | rfl | simp,by rw [List.length_append];rfl,rfl,hpNn,hwy9,by omega,by omega,by omega,by omega,by omega,by rw [List.length_append];simp only [List.length_cons,List.length_nil];omega,HE9,HOn,HSn,hBn⟩
       case measure=>simp [intOf];omega
    ·have hkd':((v.J j).kd == 2)=false:=by simp [hkd]
     have hkdn:((v.J j).kd != 2)=true:=by simp [hkd]
     have HV:Hid (lo ++ [[(p:Int),q1,q2]]=v.bey v.ov.toNat v.ov p0 way0 far0):=by
      have h9:=HE.out
      rw [if_pos (.inr hkd)] at h9
      exact h9
     clear HE hkd
     go_wp2_with fail
     go_quiet (fail)
     go_wp2_with fail
     go_ret
     exact ⟨_,rfl,by rw [HFAR.out,← HV.out];exact (HO6.out.keep (by omega) (fun _ _=>rfl):Own w.heap.size 104 3 _ _ _),below_drewN B6 _⟩
end Go.Proofs.YtkhaehpobpkkiaaGreat
