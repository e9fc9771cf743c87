import Derived.Deep.RegionWith
import Derived.Deep.RegionHeld3
import Derived.Test.YtkhaehpobpkkiaaGreatNa
namespace Go.Proofs.YtkhaehpobpkkiaaGreat
open Go.RowKit
structure NetIn (w:World)(v:Ev)(pa ja sa:Option Addr):Prop where
 p:PsAt 0 w pa v.n v.P
 j:JsAt 0 w ja v.m v.J
 s:PsAt 0 w sa v.k v.S
theorem NetIn.mono {w w':World}{v:Ev}{pa ja sa:Option Addr}{B:Nat}(h:NetIn w v pa ja sa)(hb:Below B w w')(hB:w.heap.size≤B):NetIn w' v pa ja sa:=
 ⟨h.p.mono lr hb hB,h.j.mono lr hb hB,h.s.mono lr hb hB⟩
theorem Ev.Ok.there {v:Ev}(h:v.Ok){e:En}(h0:0≤e.pc)(h1:e.pc<v.n)(h2:e.sd=0∨e.sd=1):
 ∃ j q,v.at e=(j,q)∧jointAt v.J e v.m=some (j,q)∧j<v.m∧q<(v.J j).ne∧(v.J j).E q=e∧1≤(v.J j).kd∧(v.J j).kd≤4∧((v.J j).ne:Int)=(v.J j).kd:=by
 obtain ⟨j,q,a,b,c,d⟩:=h.stand e h0 h1 h2
 obtain ⟨k1,k2,k3⟩:=h.kd j b
 exact ⟨j,q,by simp [Ev.at,a],a,b,c,d,k1,k2,k3⟩
theorem headE_ok (p:Nat)(way:Int):0≤(headE p way).pc∧(headE p way).pc=p∧((headE p way).sd=0∨(headE p way).sd=1):=by
 refine ⟨by simp [headE],rfl,?_⟩
 simp only [headE]
 split
 ·exact .inr rfl
 ·exact .inl rfl
theorem wayOf_ok (e:En):wayOf e=1∨wayOf e=-1:=by
 simp only [wayOf]
 split
 ·exact .inr rfl
 ·exact .inl rfl
def fBox (v:Ev)(pa:Option Addr)(pc:Nat)(ja:Option Addr)(jc:Nat)(sa:Option Addr)(sc:Nat)(out:Value)(tries:Int)(seen:Value):Array Value:=
 #[.slice pa v.n pc,.slice ja v.m jc,.slice sa v.k sc,.int .i64 v.ov,out,.int .i64 tries,seen]
theorem bey_zero {v:Ev}{f:Nat}{left:Int}{p:Nat}{way far:Int}(h:left≤0):v.bey f left p way far=[]:=by
 cases f with
 | zero=>rfl
 | succ f=>simp [Ev.bey,h]
def endF (ln far left:Int):Int:=if far+left > ln then ln else far+left
theorem bey_succ {v:Ev}{f:Nat}{left:Int}{p:Nat}{way far:Int}(h:¬left≤0):v.bey (f+1) left p way far =
 partR (v.P p).ln p way far (endF (v.P p).ln far left) :: (if left-(endF (v.P p).ln far left-far)≤0∨(v.J (v.at (headE p way)).1).kd≠2 then [] else
  v.bey f (left-(endF (v.P p).ln far left-far)) ((v.J (v.at (headE p way)).1).E (1-(v.at (headE p way)).2)).pc.toNat (wayOf ((v.J (v.at (headE p way)).1).E (1-(v.at (headE p way)).2))) 0):=by
 simp [Ev.bey,h,endF]
set_option maxRecDepth 100000 in
set_option maxHeartbeats 4000000 in
theorem beyond55 (v:Ev)(ok:v.Ok)(bf:Nat)(pa:Option Addr)(pc:Nat)(ja:Option Addr)(jc:Nat)(sa:Option Addr)(sc:Nat)(out:Value)(tries:Int)(seen:Value)(p0:Nat)(way0 far0:Int)(w:World)
 (hf:Box w bf 55 (fBox v pa pc ja jc sa sc out tries seen)) (hN:NetIn w v pa ja sa) (hp:p0<v.n) (hw:way0=1∨way0=-1) (h0:0≤far0) (h1:far0<(v.P p0).ln):
 Calls Tryz.prog 55 #[.pointer (some ⟨bf,0,none⟩),.int .i64 p0,.int .i64 way0,.int .i64 far0] w fun e w'=>∃ r,e=.returned r∧Own w.heap.size 104 3 w' r (v.bey v.ov.toNat v.ov p0 way0 far0)∧Below w.heap.size w w':=by
 have f0:w.cell? ⟨bf,0,none⟩=some (.slice pa v.n pc):=hf.cell 0
 have f1:w.cell? ⟨bf,1,none⟩=some (.slice ja v.m jc):=hf.cell 1
 have f3:w.cell? ⟨bf,3,none⟩=some (.int .i64 v.ov):=hf.cell 3
 have hbf:=hf.lt
 have hn1:=ok.n1
 have hm1:=ok.m1
 have ho0:=ok.o0
 have ho1:=ok.o1
 have OK:Hid v.Ok:=ok
 have HN:Hid (NetIn w v pa ja sa):=hN
 obtain ⟨i4,k1,k2,k3,k4⟩:=info_parts infoPart
 clear hf hN ok
 go_enter Tryz.func55,Tryz.ntmps55
 go_wp2_with fail
 go_loopw [1,2,3,9,10] (fun s1 s2 s3 s9 s10 wr=>∃ (p:Nat) (way far left:Int) (a:Option Addr) (cap f:Nat) (lo:List Rw),s1=.int .i64 p∧s2=.int .i64 way∧s3=.int .i64 far∧s9=.slice a lo.length cap∧s10=.int .i64 left∧
  p<v.n∧(way=1∨way=-1)∧0≤far∧far<(v.P p).ln∧0≤left∧left≤f∧f≤100000∧lo.length+f≤100000∧Hid (lo ++ v.bey f left p way far=v.bey v.ov.toNat v.ov p0 way0 far0)∧Hid (Own w.heap.size 104 3 wr (.slice a lo.length cap) lo)∧Below w.heap.size w wr) (fun _ _ _ _ s10 _=>(intOf s10).toNat)
 case atStart=>exact ⟨p0,way0,far0,v.ov,none,0,v.ov.toNat,[],rfl,rfl,rfl,rfl,rfl,hp,hw,h0,h1,ho0,by omega,by omega,by simp;omega,rfl,Own.nil _ _ _ _,Below.refl _ _⟩
 case round=>
  obtain ⟨p,way,far,left,a,cap,f,lo,rfl,rfl,rfl,rfl,rfl,hpn,hway,hf0,hf1,hl0,hlf,hf9,hlo,HE,HO,hbel⟩:=hrel
  by_cases hl:left≤0
  ·have HV:Hid (lo=v.bey v.ov.toNat v.ov p0 way0 far0):=by
    show lo=_
    rw [← HE.out,bey_zero hl,List.append_nil]
   have hl':left=0:=by omega
   subst hl'
   clear HE
   go_wp2_with fail
   go_ret
   exact ⟨_,rfl,by rw [← HV.out];exact HO.out,hbel⟩
  ·obtain ⟨g,rfl⟩:∃ g,f=g+1:=⟨f-1,by omega⟩
   rw [bey_succ hl] at HE
   have hln:=OK.out.ln p hpn
   obtain ⟨b,off,rfl,_,hb,hc⟩:=HN.out.p (by omega)
   have c1:wr.cell? ⟨b,off+p*4+1,none⟩=some (.int .i64 (v.P p).ln):=(hbel.cell (p:=⟨b,off+p*4+1,none⟩) hb).trans (hc p hpn).2.1
   have y0:=(hbel.cell (p:=⟨bf,0,none⟩) hbf).trans f0
   have y1:=(hbel.cell (p:=⟨bf,1,none⟩) hbf).trans f1
   clear hc
   have HP:Hid (PsAt 0 wr (some ⟨b,off,none⟩) v.n v.P):=HN.out.p.mono lr hbel lr
   have hpi:(p:Int)<(v.n:Int):=by omega
   have hl9:0<left:=by omega
   by_cases hE:(v.P p).ln<far+left
   ·have he:endF (v.P p).ln far left=(v.P p).ln:=by simp [endF,hE]
    rw [he] at HE
    clear he
    go_wp2_with fail
    refine (l12part75 (some ⟨b,off,none⟩) v.n pc v.P ja v.m jc p way far (v.P p).ln _ (by omega) hpn HP.out hln ⟨hf0,by omega⟩ (by omega)).mono ?_
    rintro r1 w1 ⟨rfl,hb1⟩
    have HO1:Hid (Own w.heap.size 104 3 w1 (.slice a lo.length cap) lo):=HO.out.mono lr hb1 lr
    have z0:=hbel.size
    have z1:=hb1.size
    go_wp2_with (at_builtin;go_must (refine wpList_appH _ rfl (.tmp 47) (.tmp 57) 61 rfl w.heap.size 104 i4 _ 3 24 Tryz.underlying61 k1 k2 k3 k4 rfl (by decide) _ lo rfl (HO1.out.alloc _) ⟨w1.heap.size,0,none⟩ 1 1 [partR (v.P p).ln p way far (v.P p).ln] rfl rfl (by decide) (Wide.one rfl) (news_at (partR (v.P p).ln p way far (v.P p).ln) rfl) (by simp [maxLen];omega) (by omega) (by simp;omega) ?_))
    refine Halt.mk fun v2 w2 ho2 _ hap=>?_
    obtain ⟨a2,c2,rfl⟩:=ho2.val
    have HO2:Hid (Own w.heap.size 104 3 w2 (.slice a2 (lo.length+1) c2) (lo ++ [partR (v.P p).ln p way far (v.P p).ln])):=by rw [List.length_append] at ho2;exact ho2
    have D2:Below w.heap.size w w2:=((hbel.trans (hb1.mono hbel.size)).alloc (by omega) _).grown hap.fr (by simp;omega) (fun k e=>(HO1.out.lt e).1)
    have x0:=(D2.cell (p:=⟨bf,0,none⟩) hbf).trans f0
    have x1:=(D2.cell (p:=⟨bf,1,none⟩) hbf).trans f1
    have hJ2:JsAt 0 w2.drew ja v.m v.J:=HN.out.j.mono lr D2.drew lr
    have HD2:Hid (Below w.heap.size w w2):=D2
    have t0:bf<w2.heap.size:=by have:=D2.size;omega
    clear hap ho2 HO1 hb1 y0 y1 HO D2 c1 HP
    have Hne:Hid (∀ i,i<v.m→(v.J i).ne≤1048576):=fun i hi=>by have:=OK.out.kd i hi;omega
    obtain ⟨j,q,hat,hja,hjm,hqn,hjE,hk1,hk2,hk3⟩:=OK.out.there (headE_ok p way).1 (by rw [(headE_ok p way).2.1];omega) (headE_ok p way).2.2
    have A1:(atV (jointAt v.J (headE p way) v.m)).1=(j:Int):=by rw [hja];rfl
    have A2:(atV (jointAt v.J (headE p way) v.m)).2=(q:Int):=by rw [hja];rfl
    have HAT:Hid (v.at (headE p way)=(j,q)):=hat
    have HJE:Hid ((v.J j).E q=headE p way):=hjE
    clear hja hat hjE
    go_wp2_with fail
    go_region_held3 (fun w'=>w'.cell? ⟨bf,0,none⟩=some (.slice (some ⟨b,off,none⟩) v.n pc)∧w'.cell? ⟨bf,1,none⟩=some (.slice ja v.m jc)) (go_keep) (first | (go_at_call 58;refine (l12head79 p way _).mono ?_;rintro e w7 ⟨rfl,hb7⟩;have m0:=(hb7.cell (p:=⟨bf,0,none⟩) t0).trans x0;have m1:=(hb7.cell (p:=⟨bf,1,none⟩) t0).trans x1) | (go_at_call 57;refine (l11at78 (some ⟨b,off,none⟩) v.n pc ja v.m jc v.J (headE p way) _ (by omega) (hJ2.mono lr hb7 lr) Hne.out).mono ?_;rintro e w8 ⟨rfl,hb8⟩;have m0:=(hb8.cell (p:=⟨bf,0,none⟩) (ltl t0 hb7.size)).trans m0;have m1:=(hb8.cell (p:=⟨bf,1,none⟩) (ltl t0 hb7.size)).trans m1))
    have B8:Below w2.heap.size w2 w8:=(Below.refl w2.heap.size w2).drew.trans (hb7.trans (hb8.mono hb7.size))
    have D8:Below w.heap.size w w8:=HD2.out.trans (B8.mono HD2.out.size)
    obtain ⟨b2,off2,hja2,_,hb2,hc2⟩:=(HN.out.j.mono lr D8 lr) (by omega)
    obtain ⟨ea,ec,d0,d1,d2,hEs⟩:=hc2 j hjm
    subst hja2
    clear hc2 hb7 hb8 hJ2 x0 x1
    have hz:(left-((v.P p).ln-far) == 0)=false:=by simp;omega
    have hji:(j:Int)<(v.m:Int):=by omega
    by_cases hk:(v.J j).kd=2
    ·have hk':((v.J j).kd != 2)=false:=by simp [hk]
     have hne:(v.J j).ne=2:=by omega
     rw [hne] at d2 hEs
     obtain ⟨b3,off3,rfl,_,hb3,hc3⟩:=hEs (by omega)
     rcases (show q=0∨q=1 by omega) with rfl | rfl
     ·
      have a0:w8.cell? ⟨b3,off3+2,none⟩=some (.int .i64 ((v.J j).E 1).pc):=(hc3 1 (by omega)).1
      have a1:w8.cell? ⟨b3,off3+2+1,none⟩=some (.int .i64 ((v.J j).E 1).sd):=(hc3 1 (by omega)).2
      clear hc3
      obtain ⟨en0,en1,en2⟩:=OK.out.en j hjm 1 (by omega)
      have hlt1:=OK.out.ln ((v.J j).E 1).pc.toNat (by omega)
      have HE2:Hid (lo ++ [partR (v.P p).ln p way far (v.P p).ln] ++ v.bey g (left-((v.P p).ln-far)) ((v.J j).E 1).pc.toNat (wayOf ((v.J j).E 1)) 0=v.bey v.ov.toNat v.ov p0 way0 far0):=by
       have:=HE.out
       rw [HAT.out] at this
       simp only [show ¬(left-((v.P p).ln-far)≤0∨(v.J j).kd≠2) by omega,if_false] at this
       rw [List.append_assoc]
       exact this
      by_cases hsd:((v.J j).E 1).sd=1
      ·have hwy:wayOf ((v.J j).E 1)=-1:=by simp [wayOf,hsd]
       rw [hwy] at HE2
       have hsd':(((v.J j).E 1).sd == 1)=true:=by simp [hsd]
       clear hsd hwy HE
       go_wp2_with fail
       go_roundw
       case rel=>exact ⟨((v.J j).E 1).pc.toNat,-1,0,left-((v.P p).ln-far),a2,c2,g,lo ++ [partR (v.P p).ln p way far (v.P p).ln],by rw [Int.toNat_of_nonneg en0],rfl,rfl,by rw [List.length_append];rfl,rfl,by omega,.inr rfl,by omega,by omega,by omega,by omega,by omega,by simp;omega,HE2,by rw [List.length_append];exact (HO2.out.mono lr B8 lr).alloc _,D8.alloc D8.size _⟩
       case measure=>simp [intOf];omega
      ·have hwy:wayOf ((v.J j).E 1)=1:=by simp [wayOf,hsd]
       rw [hwy] at HE2
       have hsd':(((v.J j).E 1).sd == 1)=false:=by simp [hsd]
       clear hsd hwy HE
       go_wp2_with fail
       go_roundw
       case rel=>exact ⟨((v.J j).E 1).pc.toNat,1,0,left-((v.P p).ln-far),a2,c2,g,lo ++ [partR (v.P p).ln p way far (v.P p).ln],by rw [Int.toNat_of_nonneg en0],rfl,rfl,by rw [List.length_append];rfl,rfl,by omega,.inl rfl,by omega,by omega,by omega,by omega,by omega,by simp;omega,HE2,by rw [List.length_append];exact (HO2.out.mono lr B8 lr).alloc _,D8.alloc D8.size _⟩
       case measure=>simp [intOf];omega
     ·
      have a0:w8.cell? ⟨b3,off3,none⟩=some (.int .i64 ((v.J j).E 0).pc):=(hc3 0 (by omega)).1
      have a1:w8.cell? ⟨b3,off3+1,none⟩=some (.int .i64 ((v.J j).E 0).sd):=(hc3 0 (by omega)).2
      clear hc3
      obtain ⟨en0,en1,en2⟩:=OK.out.en j hjm 0 (by omega)
      have hlt1:=OK.out.ln ((v.J j).E 0).pc.toNat (by omega)
      have HE2:Hid (lo ++ [partR (v.P p).ln p way far (v.P p).ln] ++ v.bey g (left-((v.P p).ln-far)) ((v.J j).E 0).pc.toNat (wayOf ((v.J j).E 0)) 0=v.bey v.ov.toNat v.ov p0 way0 far0):=by
       have:=HE.out
       rw [HAT.out] at this
       simp only [show ¬(left-((v.P p).ln-far)≤0∨(v.J j).kd≠2) by omega,if_false] at this
       rw [List.append_assoc]
       exact this
      by_cases hsd:((v.J j).E 0).sd=1
      ·have hwy:wayOf ((v.J j).E 0)=-1:=by simp [wayOf,hsd]
       rw [hwy] at HE2
       have hsd':(((v.J j).E 0).sd == 1)=true:=by simp [hsd]
       clear hsd hwy HE
       go_wp2_with fail
       go_roundw
       case rel=>exact ⟨((v.J j).E 0).pc.toNat,-1,0,left-((v.P p).ln-far),a2,c2,g,lo ++ [partR (v.P p).ln p way far (v.P p).ln],by rw [Int.toNat_of_nonneg en0],rfl,rfl,by rw [List.length_append];rfl,rfl,by omega,.inr rfl,by omega,by omega,by omega,by omega,by omega,by simp;omega,HE2,by rw [List.length_append];exact (HO2.out.mono lr B8 lr).alloc _,D8.alloc D8.size _⟩
       case measure=>simp [intOf];omega
      ·have hwy:wayOf ((v.J j).E 0)=1:=by simp [wayOf,hsd]
       rw [hwy] at HE2
       have hsd':(((v.J j).E 0).sd == 1)=false:=by simp [hsd]
       clear hsd hwy HE
       go_wp2_with fail
       go_roundw
       case rel=>exact ⟨((v.J j).E 0).pc.toNat,1,0,left-((v.P p).ln-far),a2,c2,g,lo ++ [partR (v.P p).ln p way far (v.P p).ln],by rw [Int.toNat_of_nonneg en0],rfl,rfl,by rw [List.length_append];rfl,rfl,by omega,.inl rfl,by omega,by omega,by omega,by omega,by omega,by simp;omega,HE2,by rw [List.length_append];exact (HO2.out.mono lr B8 lr).alloc _,D8.alloc D8.size _⟩
       case measure=>simp [intOf];omega
    ·have hk':((v.J j).kd != 2)=true:=by simp [hk]
     have HV:Hid (lo ++ [partR (v.P p).ln p way far (v.P p).ln]=v.bey v.ov.toNat v.ov p0 way0 far0):=by
      have:=HE.out
      rw [HAT.out] at this
      simp only [show (left-((v.P p).ln-far)≤0∨(v.J j).kd≠2) from .inr hk,if_true] at this
      exact this
     clear HE hk
     go_wp2_with fail
     go_ret
     exact ⟨_,rfl,by rw [← HV.out];exact HO2.out.mono lr B8 lr,D8⟩
   ·have he:endF (v.P p).ln far left=far+left:=by simp [endF,hE]
    rw [he] at HE
    clear he
    go_wp2_with fail
    refine (l12part75 (some ⟨b,off,none⟩) v.n pc v.P ja v.m jc p way far (far+left) _ (by omega) hpn HP.out hln ⟨hf0,by omega⟩ (by omega)).mono ?_
    rintro r1 w1 ⟨rfl,hb1⟩
    have HO1:Hid (Own w.heap.size 104 3 w1 (.slice a lo.length cap) lo):=HO.out.mono lr hb1 lr
    have z0:=hbel.size
    have z1:=hb1.size
    go_wp2_with (at_builtin;go_must (refine wpList_appH _ rfl (.tmp 47) (.tmp 57) 61 rfl w.heap.size 104 i4 _ 3 24 Tryz.underlying61 k1 k2 k3 k4 rfl (by decide) _ lo rfl (HO1.out.alloc _) ⟨w1.heap.size,0,none⟩ 1 1 [partR (v.P p).ln p way far (far+left)] rfl rfl (by decide) (Wide.one rfl) (news_at (partR (v.P p).ln p way far (far+left)) rfl) (by simp [maxLen];omega) (by omega) (by simp;omega) ?_))
    refine Halt.mk fun v2 w2 ho2 _ hap=>?_
    obtain ⟨a2,c2,rfl⟩:=ho2.val
    have HO2:Hid (Own w.heap.size 104 3 w2 (.slice a2 (lo.length+1) c2) (lo ++ [partR (v.P p).ln p way far (far+left)])):=by rw [List.length_append] at ho2;exact ho2
    have D2:Below w.heap.size w w2:=((hbel.trans (hb1.mono hbel.size)).alloc (by omega) _).grown hap.fr (by simp;omega) (fun k e=>(HO1.out.lt e).1)
    have x0:=(D2.cell (p:=⟨bf,0,none⟩) hbf).trans f0
    have x1:=(D2.cell (p:=⟨bf,1,none⟩) hbf).trans f1
    have hJ2:JsAt 0 w2.drew ja v.m v.J:=HN.out.j.mono lr D2.drew lr
    have HD2:Hid (Below w.heap.size w w2):=D2
    have t0:bf<w2.heap.size:=by have:=D2.size;omega
    clear hap ho2 HO1 hb1 y0 y1 HO D2 c1 HP
    have Hne:Hid (∀ i,i<v.m→(v.J i).ne≤1048576):=fun i hi=>by have:=OK.out.kd i hi;omega
    obtain ⟨j,q,hat,hja,hjm,hqn,hjE,hk1,hk2,hk3⟩:=OK.out.there (headE_ok p way).1 (by rw [(headE_ok p way).2.1];omega) (headE_ok p way).2.2
    have A1:(atV (jointAt v.J (headE p way) v.m)).1=(j:Int):=by rw [hja];rfl
    have A2:(atV (jointAt v.J (headE p way) v.m)).2=(q:Int):=by rw [hja];rfl
    have HAT:Hid (v.at (headE p way)=(j,q)):=hat
    have HJE:Hid ((v.J j).E q=headE p way):=hjE
    clear hja hat hjE
    go_wp2_with fail
    go_region_held3 (fun w'=>w'.cell? ⟨bf,0,none⟩=some (.slice (some ⟨b,off,none⟩) v.n pc)∧w'.cell? ⟨bf,1,none⟩=some (.slice ja v.m jc)) (go_keep) (first | (go_at_call 58;refine (l12head79 p way _).mono ?_;rintro e w7 ⟨rfl,hb7⟩;have m0:=(hb7.cell (p:=⟨bf,0,none⟩) t0).trans x0;have m1:=(hb7.cell (p:=⟨bf,1,none⟩) t0).trans x1) | (go_at_call 57;refine (l11at78 (some ⟨b,off,none⟩) v.n pc ja v.m jc v.J (headE p way) _ (by omega) (hJ2.mono lr hb7 lr) Hne.out).mono ?_;rintro e w8 ⟨rfl,hb8⟩;have m0:=(hb8.cell (p:=⟨bf,0,none⟩) (ltl t0 hb7.size)).trans m0;have m1:=(hb8.cell (p:=⟨bf,1,none⟩) (ltl t0 hb7.size)).trans m1))
    have B8:Below w2.heap.size w2 w8:=(Below.refl w2.heap.size w2).drew.trans (hb7.trans (hb8.mono hb7.size))
    have D8:Below w.heap.size w w8:=HD2.out.trans (B8.mono HD2.out.size)
    have hz:left-(far+left-far)=0:=by omega
    have HV:Hid (lo ++ [partR (v.P p).ln p way far (far+left)]=v.bey v.ov.toNat v.ov p0 way0 far0):=by
     have:=HE.out
     simp only [show (left-(far+left-far)≤0∨(v.J (v.at (headE p way)).1).kd≠2) from .inl (by omega),if_true] at this
     exact this
    clear HE hb7 hb8 hJ2
    go_wp2_with fail
    go_ret
    exact ⟨_,rfl,by rw [← HV.out];exact HO2.out.mono lr B8 lr,D8⟩
theorem Own.drew {B:Nat}{e:TypeId}{c:Nat}{w:World}{v:Value}{l:List Rw}(h:Own B e c w v l):Own B e c w.drew v l:=h
theorem news_drew {w:World}{e:TypeId}(r:Rw){q:Nat}(hq:w.heap.size=q):∀ j u,(cellsL [r])[j]?=some u→(w.alloc (.cells (r.map (Value.int .i64)).toArray e)).drew.cell? ((⟨q,0,none⟩:Addr).add j)=some u:=news_at r hq
theorem nodup_le {α:Type}[DecidableEq α]{l k:List α}(h:l.Nodup)(hs:∀ x,x ∈ l→x ∈ k):l.length≤k.length:=by
 induction l generalizing k with
 | nil=>simp
 | cons x l ih=>
  have hx:=hs x (by simp)
  obtain ⟨h1,h2⟩:=List.nodup_cons.1 h
  have:=ih (k:=k.erase x) h2 (fun y hy=>(List.mem_erase_of_ne (fun e=>h1 (by subst e;exact hy))).2 (hs y (by simp [hy])))
  rw [List.length_erase_of_mem hx] at this
  have hp:0<k.length:=List.length_pos_of_mem hx
  simp only [List.length_cons]
  omega
def pairs (a b:Int):Nat→List Rw
 | 0=>[]
 | i+1=>[(i:Int),a] :: [(i:Int),b] :: pairs a b i
theorem pairs_len (a b:Int)(n:Nat):(pairs a b n).length=2*n:=by
 induction n with
 | zero=>rfl
 | succ n ih=>simp only [pairs,List.length_cons,ih];omega
theorem pairs_mem {a b x:Int}{n p:Nat}(hp:p<n)(hx:x=a∨x=b):[(p:Int),x] ∈ pairs a b n:=by
 induction n with
 | zero=>omega
 | succ n ih=>
  by_cases e:p=n
  ·subst e
   rcases hx with rfl | rfl
   ·simp [pairs]
   ·simp [pairs]
  ·simp [pairs,ih (by omega)]
structure Once (a b:Int)(n:Nat)(l:List Rw):Prop where
 nd:l.Nodup
 mem:∀ r,r ∈ l→∃ (p:Nat) (x:Int),p<n∧(x=a∨x=b)∧r=[(p:Int),x]
theorem Once.nil (a b:Int)(n:Nat):Once a b n []:=⟨List.nodup_nil,fun _ h=>absurd h (List.not_mem_nil)⟩
theorem Once.len {a b:Int}{n:Nat}{l:List Rw}(h:Once a b n l):l.length≤2*n:=by
 rw [← pairs_len a b n]
 exact nodup_le h.nd fun r hr=>by
  obtain ⟨p,x,hp,hx,rfl⟩:=h.mem r hr
  exact pairs_mem hp hx
theorem Once.snoc {a b:Int}{n:Nat}{l:List Rw}(h:Once a b n l){p:Nat}{x:Int}(hp:p<n)(hx:x=a∨x=b)(hn:[(p:Int),x] ∉ l):Once a b n (l ++ [[(p:Int),x]]):=by
 refine ⟨?_,fun r hr=>?_⟩
 ·rw [List.nodup_append]
  refine ⟨h.nd,List.nodup_cons.2 ⟨List.not_mem_nil,List.nodup_nil⟩,fun y hy z hz e=>hn ?_⟩
  rw [← List.mem_singleton.1 hz,← e]
  exact hy
 ·rcases List.mem_append.1 hr with hr | hr
  ·exact h.mem r hr
  ·rw [List.mem_singleton.1 hr]
   exact ⟨p,x,hp,hx,rfl⟩
def EnOk (v:Ev)(e:En):Prop:=0≤e.pc∧e.pc<v.n∧(e.sd=0∨e.sd=1)
theorem Ev.Ok.enOk {v:Ev}(h:v.Ok){j q:Nat}(hj:j<v.m)(hq:q<(v.J j).ne):EnOk v ((v.J j).E q):=h.en j hj q hq
theorem EnOk.flip {v:Ev}{e:En}(h:EnOk v e):EnOk v ⟨e.pc,1-e.sd⟩:=⟨h.1,h.2.1,by rcases h.2.2 with e | e <;> simp [e]⟩
theorem fl_in {v:Ev}{li:List Rw}{at':Int}{f:Nat}{sl:List Rw}{e:En}(h:[e.pc,e.sd] ∈ sl):v.fl li at' f sl e=(sl,[]):=by
 cases f with
 | zero=>rfl
 | succ f=>simp [Ev.fl,h]
theorem fl_grow {v:Ev}(ok:v.Ok)(li:List Rw)(at':Int)(f:Nat):∀ (sl:List Rw) (e:En),Once 0 1 v.n sl→EnOk v e→
 Once 0 1 v.n (v.fl li at' f sl e).1∧sl.length≤(v.fl li at' f sl e).1.length∧(v.fl li at' f sl e).2.length+sl.length≤(v.fl li at' f sl e).1.length∧Wide 4 (v.fl li at' f sl e).2:=by
 induction f with
 | zero=>intro sl e h _;exact ⟨h,by simp [Ev.fl],by simp [Ev.fl],Wide.nil 4⟩
 | succ f ih=>
  intro sl e hs he
  by_cases hin:[e.pc,e.sd] ∈ sl
  ·rw [fl_in hin];exact ⟨hs,by simp,by simp,Wide.nil 4⟩
  ·have hs':Once 0 1 v.n (sl ++ [[e.pc,e.sd]]):=by
    have:=hs.snoc (p:=e.pc.toNat) (x:=e.sd) (by have:=he.1;have:=he.2.1;omega) he.2.2
    rw [Int.toNat_of_nonneg he.1] at this
    exact this hin
   have hl:(sl ++ [[e.pc,e.sd]]).length=sl.length+1:=by simp
   have W1:∀ a b c d:Int,Wide 4 [[a,b,c,d]]:=fun _ _ _ _=>Wide.one rfl
   obtain ⟨j,q,hat,-,hjm,hqn,-,hk1,hk2,hk3⟩:=ok.there he.flip.1 he.flip.2.1 he.flip.2.2
   simp only [Ev.fl,hin,if_false,hat]
   cases hb:lastS (v.P e.pc.toNat).ln v.S e.pc (if e.sd=0 then -1 else 1) v.k with
   | some b=>
    simp only
    exact ⟨hs',by omega,by simp;omega,W1 _ _ _ _⟩
   | none=>
    simp only
    by_cases h1:(v.J j).kd=1
    ·simp only [h1,if_true];exact ⟨hs',by omega,by simp;omega,W1 _ _ _ _⟩
    ·by_cases h3:(v.J j).kd=3
     ·simp only [h3,show ¬(3:Int)=1 by decide,if_false,if_true]
      by_cases hq0:q=0
      ·simp only [hq0,if_true]
       obtain ⟨g1,g2,g3,g4⟩:=ih (sl ++ [[e.pc,e.sd]]) ((v.J j).E 1) hs' (ok.enOk hjm (by omega))
       obtain ⟨k1,k2,k3,k4⟩:=ih (v.fl li at' f (sl ++ [[e.pc,e.sd]]) ((v.J j).E 1)).1 ((v.J j).E 2) g1 (ok.enOk hjm (by omega))
       refine ⟨k1,by omega,by simp only [List.length_append,List.length_cons,List.length_nil] at *;omega,g4.app k4⟩
      ·simp only [hq0,if_false]
       split
       ·exact ⟨hs',by simp,by simp;omega,W1 _ _ _ _⟩
       ·exact ⟨hs',by simp,by simp;omega,W1 _ _ _ _⟩
     ·simp only [h1,h3,if_false]
      obtain ⟨g1,g2,g3,g4⟩:=ih (sl ++ [[e.pc,e.sd]]) ((v.J j).E ((acrossF (v.J j).kd.toNat q).getD 0 0)) hs' (ok.enOk hjm (by
       rcases (show (v.J j).kd=2∨(v.J j).kd=4 by omega) with h | h
       ·rw [h]
        rcases (show q=0∨q=1 by omega) with rfl | rfl <;> simp [acrossF] <;> omega
       ·rw [h]
        rcases (show q=0∨q=1∨q=2∨q=3 by omega) with rfl | rfl | rfl | rfl <;> simp [acrossF] <;> omega))
      exact ⟨g1,by omega,by omega,g4⟩
theorem pickL_le {ln:Int}{S:Nat→Pc}{way:Int}{i b:Nat}{o:Option Nat}(h:pickL ln S way i o=some b)(ho:∀ c,o=some c→c<i):b≤i:=by
 cases o with
 | none=>simp only [pickL,Option.some.injEq] at h;omega
 | some c=>
  have:=ho c rfl
  simp only [pickL] at h
  split at h <;> simp only [Option.some.injEq] at h <;> omega
theorem lastS_lt {ln:Int}{S:Nat→Pc}{p way:Int}{q b:Nat}(h:lastS ln S p way q=some b):b<q:=by
 induction q generalizing b with
 | zero=>simp [lastS] at h
 | succ q ih=>
  simp only [lastS] at h
  split at h
  ·have:=pickL_le h (fun c hc=>ih hc);omega
  ·have:=ih h;omega
theorem row_mem {l:List Rw}{a b:Int}{k:Nat}(hw:Wide 2 l)(hk:k<l.length)(h0:fnL l k 0=a)(h1:fnL l k 1=b):[a,b] ∈ l:=by
 have hr:l[k]?=some l[k]:=List.getElem?_eq_getElem hk
 have hl:=hw l[k] (List.getElem_mem hk)
 rw [fnL_row hr] at h0 h1
 match hx:l[k],hl with
 | [x,y],_=>
  rw [hx] at h0 h1
  simp at h0 h1
  rw [← h0,← h1,← hx]
  exact List.getElem_mem hk
theorem row_not {l:List Rw}{a b:Int}(h:∀ k,k<l.length→¬(fnL l k 0=a∧fnL l k 1=b)):[a,b] ∉ l:=by
 intro hm
 obtain ⟨k,hk,e⟩:=List.getElem_of_mem hm
 refine h k hk ?_
 rw [fnL_row (List.getElem?_eq_getElem hk),fnL_row (List.getElem?_eq_getElem hk),e]
 exact ⟨rfl,rfl⟩
def Moved (w:World)(v v':Value):Prop:=∀ g,v'.ownBlock=some g→v.ownBlock=some g∨w.heap.size≤g
theorem Moved.refl (w:World)(v:Value):Moved w v v:=fun _ h=>.inl h
theorem Moved.trans {w w':World}{a b c:Value}(h:Moved w a b)(k:Moved w' b c)(hs:w.heap.size≤w'.heap.size):Moved w a c:=fun g hg=>by
 rcases k g hg with e | e
 ·exact h g e
 ·exact .inr (by omega)
theorem Appd.moved {w w':World}{v v':Value}(h:Appd w w' v v'):Moved w v v':=fun g hg=>by
 rcases h.nb with ⟨g',n,n',cap,rfl,rfl⟩ | ⟨_,g',h1,h2⟩
 ·exact .inl hg
 ·rw [h1] at hg
  simp only [Option.some.injEq] at hg
  exact .inr (by omega)
theorem Moved.old {w w':World}{a b:Value}(h:Moved w' a b)(hs:w.heap.size≤w'.heap.size):Moved w a b:=fun g hg=>(h g hg).imp id fun e=>by omega
theorem fl_done {N bf br:Nat}{W w3:World}{o:Obj}{F:Array Value}{a0 a1 a2 lv a4 a5 a6 fv v1 v3:Value}{sl li fl:List Rw}{r:Rw}(hne:bf≠br)
 (hb:Box W bf 55 F) (o1:Own N 112 2 W v1 sl) (hr:Box W br 64 #[a0,a1,a2,lv,a4,a5,a6,fv]) (ol:Own N 136 2 W lv li) (of:Own N 155 4 W fv fl) (o3:Own N 155 4 w3 v3 (fl ++ [r])) (ha:Appd (W.alloc o) w3 fv v3):
 Box (w3.setCell ⟨br,7,none⟩ v3) bf 55 F∧Own N 112 2 (w3.setCell ⟨br,7,none⟩ v3) v1 sl∧Box (w3.setCell ⟨br,7,none⟩ v3) br 64 #[a0,a1,a2,lv,a4,a5,a6,v3]∧Own N 136 2 (w3.setCell ⟨br,7,none⟩ v3) lv li∧Own N 155 4 (w3.setCell ⟨br,7,none⟩ v3) v3 (fl ++ [r])∧
  Fr (fun k=>k=br∨fv.ownBlock=some k) W (w3.setCell ⟨br,7,none⟩ v3)∧Moved W fv v3:=by
 have r3:Box w3 br 64 #[a0,a1,a2,lv,a4,a5,a6,fv]:=(hr.alloc o).grown ha.fr (fun e=>of.off hr (by decide) e rfl)
 have b3:Box w3 bf 55 F:=(hb.alloc o).grown ha.fr (fun e=>of.off hb (by decide) e rfl)
 have s3:Own N 112 2 w3 v1 sl:=(o1.alloc o).grown ha.fr (fun g hg e=>of.ne o1 (by decide) e hg)
 have l3:Own N 136 2 w3 lv li:=(ol.alloc o).grown ha.fr (fun g hg e=>of.ne ol (by decide) e hg)
 refine ⟨b3.other (p:=⟨br,7,none⟩) hne v3,s3.set r3 (by decide) 7 v3,?_,l3.set r3 (by decide) 7 v3,o3.set r3 (by decide) 7 v3,?_,ha.moved.old (by simp)⟩
 ·have:=r3.set 7 v3
  simpa using this
 ·refine (Fr.of_below (bel1 W o)).trans ((Fr.of_grown ha.fr (fun k e _=>.inr e)).trans (Fr.set _ _ (.inl rfl)))
def FlankP (v:Ev)(w0:World)(pa:Option Addr)(pc:Nat)(ja:Option Addr)(jc:Nat)(sa:Option Addr)(sc:Nat)(bf br:Nat)(out:Value)(tries:Int)(li:List Rw)(atj:Int)(a0 a1 a2 lv a4 a5 a6:Value)(f:Nat)(seen fv:Value)(sl fl:List Rw)(e:En)(w:World)(r:Ending)(w':World):Prop:=
 r=.returned (.tuple #[])∧∃ seen' fv',Below w0.heap.size w0 w'∧Box w' bf 55 (fBox v pa pc ja jc sa sc out tries seen')∧Own w0.heap.size 112 2 w' seen' (v.fl li atj f sl e).1∧Box w' br 64 #[a0,a1,a2,lv,a4,a5,a6,fv']∧
  Own w0.heap.size 136 2 w' lv li∧Own w0.heap.size 155 4 w' fv' (fl ++ (v.fl li atj f sl e).2)∧Fr (fun k=>k=bf∨k=br∨seen.ownBlock=some k∨fv.ownBlock=some k) w w'∧Moved w seen seen'∧Moved w fv fv'
def FlankC (v:Ev)(w0:World)(pa:Option Addr)(pc:Nat)(ja:Option Addr)(jc:Nat)(sa:Option Addr)(sc:Nat)(bf br:Nat)(out:Value)(tries:Int)(li:List Rw)(atj:Int)(a0 a1 a2 lv a4 a5 a6:Value)(f:Nat):Prop:=
 ∀ (seen fv:Value) (sl fl:List Rw) (e:En) (w:World),EnOk v e→Below w0.heap.size w0 w→Box w bf 55 (fBox v pa pc ja jc sa sc out tries seen)→Own w0.heap.size 112 2 w seen sl→Box w br 64 #[a0,a1,a2,lv,a4,a5,a6,fv]→Own w0.heap.size 136 2 w lv li→Own w0.heap.size 155 4 w fv fl→
  Once 0 1 v.n sl→2*v.n+1≤f+sl.length→fl.length+(2*v.n+1-sl.length)≤1048576→
  Calls Tryz.prog 87 #[.pointer (some ⟨bf,0,none⟩),.pointer (some ⟨br,0,none⟩),.int .i64 atj,.agg #[.int .i64 e.pc,.int .i64 e.sd]] w (FlankP v w0 pa pc ja jc sa sc bf br out tries li atj a0 a1 a2 lv a4 a5 a6 f seen fv sl fl e w)
theorem flankP_in {v:Ev}{w0:World}{pa:Option Addr}{pc:Nat}{ja:Option Addr}{jc:Nat}{sa:Option Addr}{sc:Nat}{bf br:Nat}{out:Value}{tries:Int}{li:List Rw}{atj:Int}{a0 a1 a2 lv a4 a5 a6:Value}{f:Nat}{seen fv:Value}{sl fl:List Rw}{e:En}{w w':World}
 (h:[e.pc,e.sd] ∈ sl) (hB:Below w0.heap.size w0 w) (hb:Box w bf 55 (fBox v pa pc ja jc sa sc out tries seen)) (hs:Own w0.heap.size 112 2 w seen sl) (hr:Box w br 64 #[a0,a1,a2,lv,a4,a5,a6,fv]) (hl:Own w0.heap.size 136 2 w lv li) (hf:Own w0.heap.size 155 4 w fv fl) (hw:Below w.heap.size w w'):
 FlankP v w0 pa pc ja jc sa sc bf br out tries li atj a0 a1 a2 lv a4 a5 a6 f seen fv sl fl e w (.returned (.tuple #[])) w':=by
 refine ⟨rfl,seen,fv,hB.trans (hw.mono hB.size),hb.mono hw lr,?_,hr.mono hw lr,hl.mono lr hw lr,?_,Fr.of_below hw,Moved.refl _ _,Moved.refl _ _⟩
 ·rw [fl_in h];exact hs.mono lr hw lr
 ·rw [fl_in h,List.append_nil];exact hf.mono lr hw lr
structure FlS (v:Ev)(w0:World)(pa:Option Addr)(pc:Nat)(ja:Option Addr)(jc:Nat)(sa:Option Addr)(sc:Nat)(bf br:Nat)(out:Value)(tries:Int)(li:List Rw)(a0 a1 a2 lv a4 a5 a6:Value)(fv:Value)(fl:List Rw)(w:World)(epc sd:Int)(seen:Value)(sl':List Rw)(s1:Value)(wx:World):Prop where
 bel:Below w0.heap.size w0 wx
 bx:Box wx bf 55 (fBox v pa pc ja jc sa sc out tries s1)
 own:Own w0.heap.size 112 2 wx s1 sl'
 rt:Box wx br 64 #[a0,a1,a2,lv,a4,a5,a6,fv]
 li:Own w0.heap.size 136 2 wx lv li
 fl:Own w0.heap.size 155 4 wx fv fl
 eb:Box wx w.heap.size 112 #[.int .i64 epc,.int .i64 sd]
 fr:Fr (fun k=>k=bf∨k=br∨seen.ownBlock=some k∨fv.ownBlock=some k) w wx
 mv:Moved w seen s1
theorem FlS.mono {v:Ev}{w0:World}{pa:Option Addr}{pc:Nat}{ja:Option Addr}{jc:Nat}{sa:Option Addr}{sc:Nat}{bf br:Nat}{out:Value}{tries:Int}{li:List Rw}{a0 a1 a2 lv a4 a5 a6:Value}{fv:Value}{fl:List Rw}{w:World}{epc sd:Int}{seen:Value}{sl':List Rw}{s1:Value}{wx wy:World}
 (h:FlS v w0 pa pc ja jc sa sc bf br out tries li a0 a1 a2 lv a4 a5 a6 fv fl w epc sd seen sl' s1 wx) (hb:Below wx.heap.size wx wy):FlS v w0 pa pc ja jc sa sc bf br out tries li a0 a1 a2 lv a4 a5 a6 fv fl w epc sd seen sl' s1 wy:=
 ⟨h.bel.trans (hb.mono h.bel.size),h.bx.mono hb lr,h.own.mono lr hb lr,h.rt.mono hb lr,h.li.mono lr hb lr,h.fl.mono lr hb lr,h.eb.mono hb lr,h.fr.trans (Fr.of_below hb),h.mv⟩
theorem fls_mk {v:Ev}{w0:World}{pa:Option Addr}{pc:Nat}{ja:Option Addr}{jc:Nat}{sa:Option Addr}{sc:Nat}{bf br:Nat}{out:Value}{tries:Int}{li:List Rw}{a0 a1 a2 lv a4 a5 a6:Value}{fv:Value}{fl:List Rw}{w:World}{epc sd:Int}{seen:Value}{sl:List Rw}{s1:Value}{wr w1:World}{o:Obj}
 (hB:Below w0.heap.size w0 w) (hb:Box w bf 55 (fBox v pa pc ja jc sa sc out tries seen)) (hs:Own w0.heap.size 112 2 w seen sl) (hr:Box w br 64 #[a0,a1,a2,lv,a4,a5,a6,fv]) (hl:Own w0.heap.size 136 2 w lv li) (hf:Own w0.heap.size 155 4 w fv fl)
 (hbf:w0.heap.size≤bf) (hne:bf≠br) (hw:Below w.heap.size w wr) (ex:Box wr w.heap.size 112 #[.int .i64 epc,.int .i64 sd]) (o1:Own w0.heap.size 112 2 w1 s1 (sl ++ [[epc,sd]])) (ha:Appd (wr.alloc o).drew w1 seen s1):
 FlS v w0 pa pc ja jc sa sc bf br out tries li a0 a1 a2 lv a4 a5 a6 fv fl w epc sd seen (sl ++ [[epc,sd]]) s1 (w1.setCell ⟨bf,6,none⟩ s1):=by
 have hb1:Box wr bf 55 (fBox v pa pc ja jc sa sc out tries seen):=hb.mono hw lr
 have hs1:Own w0.heap.size 112 2 wr seen sl:=hs.mono lr hw lr
 have hr1:Box wr br 64 #[a0,a1,a2,lv,a4,a5,a6,fv]:=hr.mono hw lr
 have hl1:Own w0.heap.size 136 2 wr lv li:=hl.mono lr hw lr
 have hf1:Own w0.heap.size 155 4 wr fv fl:=hf.mono lr hw lr
 have b2:Box w1 bf 55 (fBox v pa pc ja jc sa sc out tries seen):=(hb1.alloc o).drew.grown ha.fr (fun e=>hs1.off hb1 (by decide) e rfl)
 have r2:Box w1 br 64 #[a0,a1,a2,lv,a4,a5,a6,fv]:=(hr1.alloc o).drew.grown ha.fr (fun e=>hs1.off hr1 (by decide) e rfl)
 have l2:Own w0.heap.size 136 2 w1 lv li:=(hl1.alloc o).drew.grown ha.fr (fun g hg e=>hs1.ne hl1 (by decide) e hg)
 have f2:Own w0.heap.size 155 4 w1 fv fl:=(hf1.alloc o).drew.grown ha.fr (fun g hg e=>hs1.ne hf1 (by decide) e hg)
 have e2:Box w1 w.heap.size 112 #[.int .i64 epc,.int .i64 sd]:=(ex.alloc o).drew.grown ha.fr (fun e=>by have:=(hs.lt e).2;omega)
 have hfr:Fr (fun k=>k=bf∨k=br∨seen.ownBlock=some k∨fv.ownBlock=some k) w (w1.setCell ⟨bf,6,none⟩ s1):=
  (((Fr.of_below hw).alloc o).drew.trans (Fr.of_grown ha.fr (fun k e _=>.inr (.inr (.inl e))))).trans (Fr.set _ _ (.inl rfl))
 refine ⟨?_,?_,o1.set b2 (by decide) 6 s1,r2.other (p:=⟨bf,6,none⟩) (fun e=>hne e.symm) s1,l2.set b2 (by decide) 6 s1,f2.set b2 (by decide) 6 s1,e2.other (p:=⟨bf,6,none⟩) (fun e=>by have:=hb.lt;have e':w.heap.size=bf:=e;omega) s1,hfr,?_⟩
 ·refine hB.trans ⟨hfr.os,hfr.tape,hfr.output,hfr.size,fun k hk=>?_⟩
  have hk':k<w.heap.size:=by have:=hB.size;omega
  by_cases hx:seen.ownBlock=some k
  ·have:=(hs.lt hx).1;omega
  ·have hk1:(w1.setCell ⟨bf,6,none⟩ s1).heap[k]?=w1.heap[k]?:=Below.heap_setCell w1 _ _ k (fun e=>by have e':k=bf:=e;omega)
   rw [hk1,ha.fr.block k (by show k<(wr.alloc o).heap.size;have:=hw.size;simp;omega) (fun e=>hx e.symm)]
   show (wr.alloc o).heap[k]?=_
   rw [Below.heap_alloc wr o k (by have:=hw.size;omega),hw.block k hk']
 ·have:=b2.set 6 s1
  simpa [fBox] using this
 ·refine Moved.old ha.moved ?_
  show w.heap.size≤(wr.alloc o).heap.size
  have:=hw.size
  simp
  omega
section
variable {v:Ev} {li:List Rw} {at':Int} {f:Nat} {sl:List Rw} {e:En} {j q:Nat}
theorem fl_sig {b:Nat}(h:[e.pc,e.sd] ∉ sl)(hb:lastS (v.P e.pc.toNat).ln v.S e.pc (if e.sd=0 then -1 else 1) v.k=some b):v.fl li at' (f+1) sl e=(sl ++ [[e.pc,e.sd]],[[at',2,(b:Int),0]]):=by
 simp [Ev.fl,h,hb]
theorem fl_buf (h:[e.pc,e.sd] ∉ sl)(hb:lastS (v.P e.pc.toNat).ln v.S e.pc (if e.sd=0 then -1 else 1) v.k=none)(ha:v.at ⟨e.pc,1-e.sd⟩=(j,q))(hk:(v.J j).kd=1):v.fl li at' (f+1) sl e=(sl ++ [[e.pc,e.sd]],[[at',1,(j:Int),0]]):=by
 simp [Ev.fl,h,hb,ha,hk]
theorem fl_tip (h:[e.pc,e.sd] ∉ sl)(hb:lastS (v.P e.pc.toNat).ln v.S e.pc (if e.sd=0 then -1 else 1) v.k=none)(ha:v.at ⟨e.pc,1-e.sd⟩=(j,0))(hk:(v.J j).kd=3):
 v.fl li at' (f+1) sl e=((v.fl li at' f (v.fl li at' f (sl ++ [[e.pc,e.sd]]) ((v.J j).E 1)).1 ((v.J j).E 2)).1,(v.fl li at' f (sl ++ [[e.pc,e.sd]]) ((v.J j).E 1)).2 ++ (v.fl li at' f (v.fl li at' f (sl ++ [[e.pc,e.sd]]) ((v.J j).E 1)).1 ((v.J j).E 2)).2):=by
 simp [Ev.fl,h,hb,ha,hk]
theorem fl_open (h:[e.pc,e.sd] ∉ sl)(hb:lastS (v.P e.pc.toNat).ln v.S e.pc (if e.sd=0 then -1 else 1) v.k=none)(ha:v.at ⟨e.pc,1-e.sd⟩=(j,q))(hk:(v.J j).kd=3)(hq:q≠0)(hl:[(j:Int),(q:Int)] ∈ li):
 v.fl li at' (f+1) sl e=(sl ++ [[e.pc,e.sd]],[[at',4,(j:Int),0]]):=by
 simp [Ev.fl,h,hb,ha,hk,hq,hl]
theorem fl_shut (h:[e.pc,e.sd] ∉ sl)(hb:lastS (v.P e.pc.toNat).ln v.S e.pc (if e.sd=0 then -1 else 1) v.k=none)(ha:v.at ⟨e.pc,1-e.sd⟩=(j,q))(hk:(v.J j).kd=3)(hq:q≠0)(hl:[(j:Int),(q:Int)] ∉ li):
 v.fl li at' (f+1) sl e=(sl ++ [[e.pc,e.sd]],[[at',3,(j:Int),3-(q:Int)]]):=by
 simp [Ev.fl,h,hb,ha,hk,hq,hl]
theorem fl_on (h:[e.pc,e.sd] ∉ sl)(hb:lastS (v.P e.pc.toNat).ln v.S e.pc (if e.sd=0 then -1 else 1) v.k=none)(ha:v.at ⟨e.pc,1-e.sd⟩=(j,q))(h1:(v.J j).kd≠1)(h3:(v.J j).kd≠3){x:Nat}(hx:(acrossF (v.J j).kd.toNat q).getD 0 0=x):
 v.fl li at' (f+1) sl e=v.fl li at' f (sl ++ [[e.pc,e.sd]]) ((v.J j).E x):=by
 subst hx
 simp [Ev.fl,h,hb,ha,h1,h3]
end
section
variable {v:Ev} {w0:World} {pa:Option Addr} {pc:Nat} {ja:Option Addr} {jc:Nat} {sa:Option Addr} {sc:Nat} {bf br:Nat} {out:Value} {tries:Int} {li:List Rw} {atj:Int} {a0 a1 a2 lv a4 a5 a6:Value} {f:Nat} {seen fv:Value} {sl fl:List Rw} {e:En} {w:World}
theorem flankP_one {sl':List Rw}{s1 v3:Value}{wx w3:World}{o:Obj}{r:Rw}{epc sd:Int}(h:FlS v w0 pa pc ja jc sa sc bf br out tries li a0 a1 a2 lv a4 a5 a6 fv fl w epc sd seen sl' s1 wx)(hfl:v.fl li atj f sl e=(sl',[r]))(hbr:w0.heap.size≤br)(hne:bf≠br)
 (o3:Own w0.heap.size 155 4 w3 v3 (fl ++ [r])) (ha:Appd (wx.alloc o) w3 fv v3):
 FlankP v w0 pa pc ja jc sa sc bf br out tries li atj a0 a1 a2 lv a4 a5 a6 f seen fv sl fl e w (.returned (.tuple #[])) (w3.setCell ⟨br,7,none⟩ v3):=by
 obtain ⟨d1,d2,d3,d4,d5,d6,d7⟩:=fl_done hne h.bx h.own h.rt h.li h.fl o3 ha
 refine ⟨rfl,s1,v3,?_,d1,by rw [hfl];exact d2,d3,d4,by rw [hfl];exact d5,h.fr.then d6 (fun i _ y=>.inr (y.elim .inl (fun z=>.inr (.inr z)))),h.mv,d7.old h.fr.size⟩
 refine h.bel.trans (d6.below h.bel.size fun k hk x=>?_)
 rcases x with x | x
 ·omega
 ·have:=(h.fl.lt x).1;omega
theorem flankP_on {sl':List Rw}{s1:Value}{wx w9:World}{epc sd:Int}{e2:En}{f2:Nat}{r:Ending}(h:FlS v w0 pa pc ja jc sa sc bf br out tries li a0 a1 a2 lv a4 a5 a6 fv fl w epc sd seen sl' s1 wx)(hfl:v.fl li atj f sl e=v.fl li atj f2 sl' e2)
 (hp:FlankP v w0 pa pc ja jc sa sc bf br out tries li atj a0 a1 a2 lv a4 a5 a6 f2 s1 fv sl' fl e2 wx r w9):FlankP v w0 pa pc ja jc sa sc bf br out tries li atj a0 a1 a2 lv a4 a5 a6 f seen fv sl fl e w r w9:=by
 obtain ⟨rfl,s9,f9,g1,g2,g3,g4,g5,g6,g7,g8,g9⟩:=hp
 refine ⟨rfl,s9,f9,g1,g2,by rw [hfl];exact g3,g4,g5,by rw [hfl];exact g6,h.fr.then g7 (fun i hi y=>?_),h.mv.trans g8 h.fr.size,g9.old h.fr.size⟩
 rcases y with y | y | y | y
 ·exact .inl y
 ·exact .inr (.inl y)
 ·rcases h.mv i y with z | z
  ·exact .inr (.inr (.inl z))
  ·omega
 ·exact .inr (.inr (.inr y))
theorem flankP_two {s1 f1:Value}{sl1 fl1:List Rw}{wx w9:World}{e2:En}{f2:Nat}{r:Ending}{X:List Rw × List Rw}(m1:Moved w seen s1)(m2:Moved w fv f1)(hfr:Fr (fun k=>k=bf∨k=br∨seen.ownBlock=some k∨fv.ownBlock=some k) w wx)(hX:v.fl li atj f sl e=X)(h1:X.1=(v.fl li atj f2 sl1 e2).1)(h2:fl ++ X.2=fl1 ++ (v.fl li atj f2 sl1 e2).2)
 (hp:FlankP v w0 pa pc ja jc sa sc bf br out tries li atj a0 a1 a2 lv a4 a5 a6 f2 s1 f1 sl1 fl1 e2 wx r w9):FlankP v w0 pa pc ja jc sa sc bf br out tries li atj a0 a1 a2 lv a4 a5 a6 f seen fv sl fl e w r w9:=by
 obtain ⟨rfl,s9,f9,g1,g2,g3,g4,g5,g6,g7,g8,g9⟩:=hp
 refine ⟨rfl,s9,f9,g1,g2,by rw [hX,h1];exact g3,g4,g5,by rw [hX,h2];exact g6,hfr.then g7 (fun i hi y=>?_),m1.trans g8 hfr.size,m2.trans g9 hfr.size⟩
 rcases y with y | y | y | y
 ·exact .inl y
 ·exact .inr (.inl y)
 ·rcases m1 i y with z | z
  ·exact .inr (.inr (.inl z))
  ·omega
 ·rcases m2 i y with z | z
  ·exact .inr (.inr (.inr z))
  ·omega
end
theorem infoRoute:(Tryz.prog.info? 64).map (fun i=>(i.zero,i.size,i.bytes))=some (some (.agg #[.int .i64 0,.int .i64 0,.slice none 0 0,.slice none 0 0,.slice none 0 0,.slice none 0 0,.slice none 0 0,.slice none 0 0]),8,160):=by kernel_rfl
theorem ownsRow_lower {w:World}{B B':Nat}{e:TypeId}{c:Nat}{v:Value}{n:Nat}{xs:List Value}(h:w.ownsRow B' e c v n xs)(hb:B≤B'):w.ownsRow B e c v n xs:=by
 obtain ⟨q1,q2⟩:=h
 refine ⟨q1,?_⟩
 rcases q2 with q2 | ⟨g,cap,cur,r1,r2,r3⟩
 ·exact .inl q2
 ·exact .inr ⟨g,cap,cur,r1,by omega,r3⟩
theorem ownsRow_keep {w w':World}{B:Nat}{e:TypeId}{c:Nat}{v:Value}{n:Nat}{xs:List Value}(h:w.ownsRow B e c v n xs)(hk:∀ g,v.ownBlock=some g→w'.heap[g]?=w.heap[g]?):w'.ownsRow B e c v n xs:=by
 obtain ⟨q1,q2⟩:=h
 refine ⟨q1,?_⟩
 rcases q2 with q2 | ⟨g,cap,cur,rfl,r2,r3,r4⟩
 ·exact .inl q2
 ·exact .inr ⟨g,cap,cur,rfl,r2,by rw [hk g rfl];exact r3,r4⟩
theorem run_appC {P:Program}(w:World)(t ty:TypeId)(B:Nat)(e:TypeId)(i:TypeInfo)(z:Value)(c bytes:Nat)(ht:P.underlying t=some (.slice e))(hi:P.info? e=some i)(hz:i.zero=some z)
 (hsize:i.size=c) (hby:i.bytes=bytes) (hzs:z.cells.size=c) (hsz:0<c) (v:Value) (n:Nat) (xs:List Value) (hown:w.ownsRow B e c v n xs)
 (ad:Addr) (m cc:Nat) (news:List Value) (hln:news.length=m*c) (h0:0<m) (hnews:∀ j u,news[j]?=some u→w.cell? (ad.add j)=some u) (h1:∀ u ∈ news,u.oneCell'=true)
 (h63:n+m≤maxLen) (hbytes:(n+m)*bytes≤140737488355328) (hbase:B≤w.heap.size):
 ∃ v' w',(Builtin.append_ #[t,t] ty #[v,.slice (some ad) m cc]).run P w=.ok v' w'∧w'.ownsRow B e c v' (n+m) (xs ++ news)∧Appd w w' v v':=by
 obtain ⟨hx,hh⟩:=hown
 rcases hh with ⟨rfl,rfl⟩ | ⟨g,cap,cur,rfl,h2,h3,h4,h5,h6,h7⟩
 ·obtain rfl:xs=[]:=List.eq_nil_of_length_eq_zero (by simpa using hx)
  obtain ⟨v',w',hrun,ho',hg',_⟩:=run_append_own (P:=P) w w.heap.size t ty e i z c bytes ht hi hz hsize hby hzs hsz (.slice none 0 0) 0 [] (World.ownsRow_nil w _ e c) ad m cc news hln hnews h1 h63 hbytes lr
  refine ⟨v',w',hrun,ownsRow_lower ho' hbase,hg',.inr ⟨hg',?_⟩⟩
  obtain ⟨_,⟨q1,q2⟩ | ⟨g,cap,cur,r1,r2,r3⟩⟩:=ho'
  ·omega
  ·exact ⟨g,by rw [r1];rfl,r2⟩
 ·have hown:w.ownsRow B e c (.slice (some ⟨g,0,none⟩) n cap) n xs:=⟨hx,.inr ⟨g,cap,cur,rfl,h2,h3,h4,h5,h6,h7⟩⟩
  by_cases hc:n+m≤cap
  ·obtain ⟨w',hrun,ho',hg'⟩:=run_append_fits (P:=P) w B t ty e i c ht hi hsize g n cap xs hown ad m cc news hln hnews h1 hc
   exact ⟨_,w',hrun,ho',hg',.inl ⟨g,_,_,cap,rfl,rfl⟩⟩
  ·obtain ⟨v',w',hrun,ho',hg'⟩:=run_append_arg_grows (P:=P) w t ty e i z c bytes ht hi hz hsize hby hzs hsz ⟨g,0,none⟩ n cap xs hx (fun j u hj=>by
    have hl:j<n*c:=by rw [← hx];exact (List.getElem?_eq_some_iff.1 hj).1
    rw [← h7,List.getElem?_take_of_lt hl] at hj
    have h9:w.cell? ⟨g,j,none⟩=some u:=by
     simp only [World.cell?,h3]
     simpa using hj
    by_cases hj0:j=0
    ·subst hj0;simpa [Addr.add] using h9
    ·simpa [Addr.add,hj0] using h9) ad m cc news hln hnews (by omega) h63 hbytes
   refine ⟨v',w',hrun,ownsRow_lower ho' hbase,⟨hg'.os,hg'.tape,hg'.output,hg'.size,fun k hk _=>hg'.block k hk (by simp)⟩,.inr ⟨hg',?_⟩⟩
   obtain ⟨_,⟨q1,q2⟩ | ⟨g,cap,cur,r1,r2,r3⟩⟩:=ho'
   ·omega
   ·exact ⟨g,by rw [r1];rfl,r2⟩
theorem step_appC {P:Program}{ops:Array Oper}{o:Oper}{a:Act}{w:World}{K:Act→World→Prop}{Q:Exit→Act→World→Prop}{E:Prop}(hgd:o.guard=none)(s x:Operand)(t:TypeId)
 (ho:o.op=.call { callee:=.builtin .append,args:=#[s,x],argTypes:=#[t,t] })
 (B:Nat) (e:TypeId) (i:TypeInfo) (z:Value) (c bytes:Nat) (ht:P.underlying t=some (.slice e)) (hi:P.info? e=some i) (hz:i.zero=some z)
 (hsize:i.size=c) (hby:i.bytes=bytes) (hzs:z.cells.size=c) (hsz:0<c) (v:Value) (n:Nat) (xs:List Value) (hs:a.eval s=v) (hown:w.ownsRow B e c v n xs)
 (ad:Addr) (m cc:Nat) (news:List Value) (hx:a.eval x=.slice (some ad) m cc) (hln:news.length=m*c) (h0:0<m) (hnews:∀ j u,news[j]?=some u→w.cell? (ad.add j)=some u) (h1:∀ u ∈ news,u.oneCell'=true)
 (h63:n+m≤maxLen) (hbytes:(n+m)*bytes≤140737488355328) (hbase:B≤w.heap.size)
 (h:∀ v' w',w'.ownsRow B e c v' (n+m) (xs ++ news)→Appd w w' v v'→K (a.put o.dst v') w'):
 if Region.wanted o (yielded ops a.tmps)=true then Oper.wp P o a w K Q else E:=by
 have hwt:Region.wanted o (yielded ops a.tmps)=true:=by simp [Region.wanted,hgd]
 rw [if_pos hwt]
 obtain ⟨v',w',hrun,r1,r3⟩:=run_appC (P:=P) w t o.type B e i z c bytes ht hi hz hsize hby hzs hsz v n xs hown ad m cc news hln h0 hnews h1 h63 hbytes hbase
 unfold Oper.wp
 simp [execOp,ho,resolve,invoke,builtin,hs,hx,hrun,Result.andThen]
 exact h v' w' r1 r3
structure RtIs (B:Nat)(w:World)(row:List Value)(r:RtM)(sv lv xv qv ov fv:Value):Prop where
 row:row=[.int .i64 r.fr,.int .i64 r.to,sv,lv,xv,qv,ov,fv]
 s:Own B 100 2 w sv r.t.st
 l:Own B 136 2 w lv r.t.li
 x:Own B 3 1 w xv r.t.cr
 q:Own B 104 3 w qv r.t.pa
 o:Own B 104 3 w ov r.ov
 f:Own B 155 4 w fv r.fl
structure Rests (w w':World):Prop where
 size:w.heap.size≤w'.heap.size
 blk:∀ (k:Nat) (cur:Array Value) (e:TypeId),w.heap[k]?=some (.cells cur e (0,0))→(e=100∨e=136∨e=3∨e=104∨e=155)→w'.heap[k]?=w.heap[k]?
theorem Own.rests {B:Nat}{e:TypeId}{c:Nat}{w w':World}{v:Value}{l:List Rw}(h:Own B e c w v l)(hs:Rests w w')(he:e=100∨e=136∨e=3∨e=104∨e=155):Own B e c w' v l:=by
 refine h.keep lr fun g hg=>?_
 rcases h.shape with ⟨rfl,_⟩ | ⟨g',cap,cur,rfl,_,h3,_⟩
 ·simp [Value.ownBlock] at hg
 ·simp only [Value.ownBlock,Option.some.injEq] at hg
  subst hg
  exact hs.blk _ _ _ h3 he
theorem RtIs.rests {B:Nat}{w w':World}{row:List Value}{r:RtM}{sv lv xv qv ov fv:Value}(h:RtIs B w row r sv lv xv qv ov fv)(hs:Rests w w'):RtIs B w' row r sv lv xv qv ov fv:=
 ⟨h.row,h.s.rests hs (by simp),h.l.rests hs (by simp),h.x.rests hs (by simp),h.q.rests hs (by simp),h.o.rests hs (by simp),h.f.rests hs (by simp)⟩
def OutAt (B:Nat)(w:World)(v:Value)(rs:List RtM):Prop:=
 ∃ rows:List (List Value),rows.length=rs.length∧w.ownsRow B 64 8 v rs.length rows.flatten∧∀ (i:Nat) (r:RtM),rs[i]?=some r→∃ row sv lv xv qv ov fv,rows[i]?=some row∧RtIs B w row r sv lv xv qv ov fv
theorem OutAt.val {B:Nat}{w:World}{v:Value}{rs:List RtM}(h:OutAt B w v rs):∃ a cap,v=.slice a rs.length cap:=by
 obtain ⟨rows,_,⟨_,⟨h1,h2⟩ | ⟨g,cap,cur,h1,_⟩⟩,_⟩:=h
 ·exact ⟨none,0,by rw [h1,h2]⟩
 ·exact ⟨_,cap,h1⟩
theorem OutAt.nil (B:Nat)(w:World):OutAt B w (.slice none 0 0) []:=⟨[],rfl,by simpa using World.ownsRow_nil w B 64 8,fun i r h=>by simp at h⟩
theorem OutAt.keep {B:Nat}{w w':World}{v:Value}{rs:List RtM}(h:OutAt B w v rs)(hs:Rests w w')(hk:∀ g,v.ownBlock=some g→w'.heap[g]?=w.heap[g]?):OutAt B w' v rs:=by
 obtain ⟨rows,h1,h2,h3⟩:=h
 refine ⟨rows,h1,ownsRow_keep h2 hk,fun i r hr=>?_⟩
 obtain ⟨row,sv,lv,xv,qv,ov,fv,k1,k2⟩:=h3 i r hr
 exact ⟨row,sv,lv,xv,qv,ov,fv,k1,k2.rests hs⟩
theorem OutAt.block {B:Nat}{w:World}{v:Value}{rs:List RtM}(h:OutAt B w v rs){g:Nat}(hg:v.ownBlock=some g):B≤g∧∃ cur,w.heap[g]?=some (.cells cur 64 (0,0)):=by
 obtain ⟨rows,_,⟨_,⟨rfl,_⟩ | ⟨g',cap,cur,rfl,r2,r3,_⟩⟩,_⟩:=h
 ·simp [Value.ownBlock] at hg
 ·simp only [Value.ownBlock,Option.some.injEq] at hg
  subst hg
  exact ⟨r2,cur,r3⟩
theorem OutAt.lt {B:Nat}{w:World}{v:Value}{rs:List RtM}(h:OutAt B w v rs){g:Nat}(hg:v.ownBlock=some g):g<w.heap.size:=by
 obtain ⟨_,cur,hc⟩:=h.block hg
 exact (Array.getElem?_eq_some_iff.1 hc).1
theorem Rests.refl (w:World):Rests w w:=⟨Nat.le_refl _,fun _ _ _ _ _=>rfl⟩
theorem Rests.of_fr {X:Nat→Prop}{w w':World}(h:Fr X w w')(hx:∀ (k:Nat) (cur:Array Value) (e:TypeId),k<w.heap.size→X k→w.heap[k]?=some (.cells cur e (0,0))→¬(e=100∨e=136∨e=3∨e=104∨e=155)):Rests w w':=
 ⟨h.size,fun k cur e hk he=>by
  have hl:=(Array.getElem?_eq_some_iff.1 hk).1
  exact h.block k hl fun x=>hx k cur e hl x hk he⟩
theorem OutAt.snoc {B:Nat}{w':World}{v':Value}{rs:List RtM}{r:RtM}{rows:List (List Value)}{row:List Value}{sv lv xv qv ov fv:Value}(hl:rows.length=rs.length)(ho:w'.ownsRow B 64 8 v' (rs.length+1) (rows.flatten ++ row))
 (hr:∀ (i:Nat) (r:RtM),rs[i]?=some r→∃ row sv lv xv qv ov fv,rows[i]?=some row∧RtIs B w' row r sv lv xv qv ov fv) (hn:RtIs B w' row r sv lv xv qv ov fv):OutAt B w' v' (rs ++ [r]):=by
 refine ⟨rows ++ [row],by simp [hl],by simpa using ho,fun i r' hi=>?_⟩
 by_cases hlt:i<rs.length
 ·rw [List.getElem?_append_left hlt] at hi
  obtain ⟨row',a,b,c,d,e,f,k1,k2⟩:=hr i r' hi
  exact ⟨row',a,b,c,d,e,f,by rw [List.getElem?_append_left (by omega)];exact k1,k2⟩
 ·have hlt2:i=rs.length:=by
   have:=(List.getElem?_eq_some_iff.1 hi).1
   simp at this
   omega
  subst hlt2
  simp at hi
  subst hi
  exact ⟨row,_,_,_,_,_,_,by rw [← hl];simp,hn⟩
def LiOk (v:Ev)(li:List Rw):Prop:=∀ r,r ∈ li→∃ j x:Nat,j<v.m∧(v.J j).kd=3∧(x=1∨x=2)∧r=[(j:Int),(x:Int)]
theorem LiOk.row {v:Ev}{li:List Rw}(h:LiOk v li){k:Nat}(hk:k<li.length):∃ j x:Nat,j<v.m∧(v.J j).kd=3∧(x=1∨x=2)∧li[k]?=some [(j:Int),(x:Int)]∧fnL li k 0=j∧fnL li k 1=x:=by
 obtain ⟨j,x,h1,h2,h3,h4⟩:=h li[k] (List.getElem_mem hk)
 have hr:li[k]?=some [(j:Int),(x:Int)]:=by rw [List.getElem?_eq_getElem hk,h4]
 exact ⟨j,x,h1,h2,h3,hr,by rw [fnL_row hr];rfl,by rw [fnL_row hr];rfl⟩
theorem fls_snoc (v:Ev)(li l:List Rw)(x:Rw):v.fls li (l ++ [x])=v.fls li l ++ (v.fl li (x.getD 0 0) (2*v.n+1) [] ((v.J (x.getD 0 0).toNat).E (3-x.getD 1 0).toNat)).2:=by
 induction l with
 | nil=>simp [Ev.fls]
 | cons y l ih=>
  rw [List.cons_append,Ev.fls,Ev.fls,ih,List.append_assoc]
end Go.Proofs.YtkhaehpobpkkiaaGreat
