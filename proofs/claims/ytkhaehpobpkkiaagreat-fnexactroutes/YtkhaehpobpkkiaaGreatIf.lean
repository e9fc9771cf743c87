import Derived.Deep.RegionHeld3
import Derived.RangeFuncNested
import Derived.RangeFuncCalls
import Derived.Test.YtkhaehpobpkkiaaGreatIe
import Derived.Test.YtkhaehpobpkkiaaGreatNc
namespace Go.Proofs.YtkhaehpobpkkiaaGreat
open Go.RowKit
theorem Own.back {n0:Nat}{e:TypeId}{c:Nat}{W W':World}{v v2:Value}{l k:List Rw}(hc:0<c)(h1:Own n0 e c W v l)(h2:Own n0 e c W v2 (l ++ k))(h3:Own n0 e c W' v2 (l ++ k))(hk:∀ g,v.ownBlock=some g→v2.ownBlock≠some g→W'.heap[g]?=W.heap[g]?):Own n0 e c W' v l:=by
 by_cases hs:∃ g,v.ownBlock=some g∧v2.ownBlock=some g
 ·obtain ⟨g,hg1,hg2⟩:=hs
  rcases h1.shape with ⟨rfl,_⟩ | ⟨g1,cap1,cur1,rfl,_,hb1,_,_,hz1,_⟩
  ·simp [Value.ownBlock] at hg1
  ·rcases h2.shape with ⟨rfl,_⟩ | ⟨g2,cap2,cur2,rfl,_,hb2,_,_,hz2,_⟩
   ·simp [Value.ownBlock] at hg2
   ·simp only [Value.ownBlock,Option.some.injEq] at hg1 hg2
    subst hg1
    subst hg2
    rw [hb1] at hb2
    simp only [Option.some.injEq,Obj.cells.injEq] at hb2
    obtain ⟨rfl,_⟩:=hb2
    have:cap1=cap2:=Nat.eq_of_mul_eq_mul_right hc (hz1.symm.trans hz2)
    subst this
    exact h3.short
 ·exact h1.keep lr fun g hg=>hk g hg fun e=>hs ⟨g,hg,e⟩
section
variable {n0:Nat} {wB w:World} {D0 D D':Nat→Prop} {J J':Jt'} {pre pre':List (Option RtM)} {t t2:Tl} {sv pv lv xv lv2 xv2:Value} {s q ks kq kl kx:List Rw} {sv1 pv1:Value} {tt:Int} {dn:Bool} {p:Nat} {way:Int} {W W':World}
theorem CmS.child (hJ:JOk n0 J)(h:CmS n0 wB w D0 J pre D t sv pv lv xv (t.st ++ ks) (t.pa ++ kq) sv1 pv1 tt dn p way W)
 (hl:Own n0 136 2 W lv2 (t.li ++ kl)) (hx:Own n0 3 1 W xv2 (t.cr ++ kx)) (hm:∀ k,TrB sv1 pv1 lv2 xv2 k→TrB sv pv lv xv k∨w.heap.size+2≤k)
 (hf:Fr (fun k=>D k∨TrB sv1 pv1 lv2 xv2 k) W W') (hs':Own n0 100 2 W' sv1 (t.st ++ ks)) (hq':Own n0 104 3 W' pv1 (t.pa ++ kq)) (hl':Own n0 136 2 W' lv2 (t.li ++ kl)) (hx':Own n0 3 1 W' xv2 (t.cr ++ kx))
 (hD:∀ k,D' k→D k∨W.heap.size≤k) (hj:J' pre' W' D'):CmS n0 wB w D0 J' pre' D' t sv pv lv xv (t.st ++ ks) (t.pa ++ kq) sv1 pv1 tt dn p way W':=by
 have hsz:=h.fr.size
 have hbx:=h.bx.lt
 have hbs:=h.bs.lt
 have ge:∀ k,TrB sv1 pv1 lv2 xv2 k→n0≤k:=fun k hk=>by
  rcases hk with e | e | e | e
  ·exact (h.s1.lt e).1
  ·exact (h.p1.lt e).1
  ·exact (hl.lt e).1
  ·exact (hx.lt e).1
 have kb:∀ k,k<W.heap.size→(D k→False)→(TrB sv1 pv1 lv2 xv2 k→False)→W'.heap[k]?=W.heap[k]?:=fun k hk h1 h2=>hf.block k hk (fun e=>e.elim h1 h2)
 have nbx:∀ k,TrB sv1 pv1 lv2 xv2 k→k≠w.heap.size∧k≠w.heap.size+1:=fun k hk=>by
  rcases hm k hk with e | e
  ·have:=h.old k e;omega
  ·omega
 refine ⟨h.nz,h.bel.trans (hf.below (Nat.le_trans h.nz hsz) (fun k hk e=>e.elim (fun e=>by have:=(hJ.lt h.j k e).1;omega) (fun e=>by have:=ge k e;omega))),h.fr.then hf (fun i hi e=>?_),hj,fun k hk=>?_,fun k hk=>?_,h.bx.keep (kb _ hbx (fun e=>(h.nd _ e).2.2.2.1 rfl) (fun e=>(nbx _ e).1 rfl)),h.bs.keep (kb _ hbs (fun e=>(h.nd _ e).2.2.2.2 rfl) (fun e=>(nbx _ e).2 rfl)),⟨?_,?_,?_,?_⟩,hs',hq',h.ms,h.mp,h.old⟩
 ·rcases e with e | e
  ·rcases h.hd i e with e | e
   ·exact .inl e
   ·omega
  ·rcases hm i e with e | e
   ·exact .inr e
   ·omega
 ·rcases hD k hk with e | e
  ·exact h.hd k e
  ·exact .inr (by omega)
 ·rcases hD k hk with e | e
  ·exact h.nd k e
  ·refine ⟨fun x=>?_,fun x=>?_,fun x=>?_,by omega,by omega⟩
   ·have:=(h.tl.lt x).2;omega
   ·have:=(h.s1.lt x).2;omega
   ·have:=(h.p1.lt x).2;omega
 ·refine Own.back (by decide) h.tl.s h.s1 hs' fun g hg hn=>kb g (h.tl.s.lt hg).2 (fun e=>(h.nd g e).1 (.inl hg)) fun e=>?_
  rcases e with e | e | e | e
  ·exact hn e
  ·exact h.tl.s.ne h.p1 (by decide) hg e
  ·exact h.tl.s.ne hl (by decide) hg e
  ·exact h.tl.s.ne hx (by decide) hg e
 ·refine Own.back (by decide) h.tl.l hl hl' fun g hg hn=>kb g (h.tl.l.lt hg).2 (fun e=>(h.nd g e).1 (.inr (.inr (.inl hg)))) fun e=>?_
  rcases e with e | e | e | e
  ·exact h.tl.l.ne h.s1 (by decide) hg e
  ·exact h.tl.l.ne h.p1 (by decide) hg e
  ·exact hn e
  ·exact h.tl.l.ne hx (by decide) hg e
 ·refine Own.back (by decide) h.tl.x hx hx' fun g hg hn=>kb g (h.tl.x.lt hg).2 (fun e=>(h.nd g e).1 (.inr (.inr (.inr hg)))) fun e=>?_
  rcases e with e | e | e | e
  ·exact h.tl.x.ne h.s1 (by decide) hg e
  ·exact h.tl.x.ne h.p1 (by decide) hg e
  ·exact h.tl.x.ne hl (by decide) hg e
  ·exact hn e
 ·refine Own.back (by decide) h.tl.q h.p1 hq' fun g hg hn=>kb g (h.tl.q.lt hg).2 (fun e=>(h.nd g e).1 (.inr (.inl hg))) fun e=>?_
  rcases e with e | e | e | e
  ·exact h.tl.q.ne h.s1 (by decide) hg e
  ·exact hn e
  ·exact h.tl.q.ne hl (by decide) hg e
  ·exact h.tl.q.ne hx (by decide) hg e
end
def OvP (n0:Nat)(w:World)(t1:Tl)(sv pv lv xv:Value):Option Tl→Ending→World→Prop
 | none,e,w'=>e=.returned (.tuple #[.agg #[.slice none 0 0,.slice none 0 0,.slice none 0 0,.slice none 0 0,.int .i64 0,.bool false],.bool false])∧Below w.heap.size w w'
 | some t2,e,w'=>∃ lv2 xv2 kl kx,e=.returned (.tuple #[.agg #[sv,pv,lv2,xv2,.int .i64 0,.bool false],.bool true])∧t2.st=t1.st∧t2.pa=t1.pa∧t2.li=t1.li ++ kl∧t2.cr=t1.cr ++ kx∧TlIn n0 w' t2 sv lv2 xv2 pv∧TlIn n0 w' t1 sv lv xv pv∧Fr (fun k=>lv.ownBlock=some k∨xv.ownBlock=some k) w w'∧Moved w lv lv2∧Moved w xv xv2
theorem lieF_app (li:List Rw)(j:Int)(r:Rw):lieF (li ++ [r]) j=(lieF li j).or (if r.getD 0 0=j then some (r.getD 1 0) else none):=by
 unfold lieF
 rw [List.find?_append]
 cases h:li.find? (fun r=>r.getD 0 0 == j) with
 | some a=>simp
 | none=>
  by_cases hr:r.getD 0 0=j
  ·simp
  ·simp
theorem lieF_one {v:Ev}{li:List Rw}(h:LiOk v li){j l:Int}(hl:lieF li j=some l):l=1∨l=2:=by
 unfold lieF at hl
 cases hf:li.find? (fun r=>r.getD 0 0 == j) with
 | none=>rw [hf] at hl;simp at hl
 | some r=>
  rw [hf] at hl
  simp only [Option.map_some,Option.some.injEq] at hl
  obtain ⟨j',x,_,_,hx,hr⟩:=h r (List.mem_of_find?_eq_some hf)
  subst hr
  simp at hl
  omega
theorem LieK.nil:LieK []:=fun j q hq=>by
 simp [lieF]
 omega
theorem LieK.snoc {v:Ev}{li:List Rw}(h:LieK li)(_hli:LiOk v li){j x:Nat}(_hx:0<x)(hn:lieF li (j:Int)=none):LieK (li ++ [[(j:Int),(x:Int)]]):=by
 intro j' q hq
 rw [lieF_app]
 have e1:([(j:Int),(x:Int)]:Rw).getD 0 0=j:=rfl
 have e2:([(j:Int),(x:Int)]:Rw).getD 1 0=x:=rfl
 rw [e1,e2]
 have hh:=h j' q hq
 by_cases hj:j=j'
 ·subst hj
  rw [hn]
  rw [hn] at hh
  simp only [Option.none_or,if_true,Option.getD_some,List.mem_append,List.mem_singleton,List.cons.injEq,and_true,true_and]
  simp only [Option.getD_none] at hh
  constructor
  ·intro e;exact .inr e.symm
  ·rintro (e | e)
   ·exact absurd (hh.2 e) (by omega)
   ·exact e.symm
 ·have hne:¬((j:Int)=(j':Int)):=by omega
  simp only [hne,if_false,Option.or_none,List.mem_append,List.mem_singleton,List.cons.injEq,and_true]
  rw [hh]
  constructor
  ·exact .inl
  ·rintro (e | ⟨e,_⟩)
   ·exact e
   ·exact absurd e.symm hne
theorem overC {v:Ev}{n0:Nat}{t1:Tl}(sa pa la xa:Option Addr)(sn sc pn pc lc xc:Nat){kd:Int}{j q x:Nat}(w:World)(hB:n0≤w.heap.size)(h:TlIn n0 w t1 (.slice sa sn sc) (.slice la t1.li.length lc) (.slice xa t1.cr.length xc) (.slice pa pn pc))(hkd:kd=2∨kd=3∨kd=4)(hx:x ∈ acrossF kd.toNat q)(hli:LiOk v t1.li)(hl:t1.li.length≤1000)(hc:t1.cr.length≤1000):
 Calls Tryz.prog 100 #[.agg #[.slice sa sn sc,.slice pa pn pc,.slice la t1.li.length lc,.slice xa t1.cr.length xc,.int .i64 0,.bool false],kindV kd,.agg #[.int .i64 (j:Int),.int .i64 (q:Int)],.int .i64 (x:Int)] w (OvP n0 w t1 (.slice sa sn sc) (.slice pa pn pc) (.slice la t1.li.length lc) (.slice xa t1.cr.length xc) (t1.over kd j q x)):=by
 have same:∀ e w',e=.returned (.tuple #[.agg #[.slice sa sn sc,.slice pa pn pc,.slice la t1.li.length lc,.slice xa t1.cr.length xc,.int .i64 0,.bool false],.bool true])∧Below w.heap.size w w'→OvP n0 w t1 (.slice sa sn sc) (.slice pa pn pc) (.slice la t1.li.length lc) (.slice xa t1.cr.length xc) (some t1) e w':=fun e w' hh=>by
  have ht:=h.mono hh.2 lr
  exact ⟨_,_,[],[],hh.1,rfl,rfl,by simp,by simp,ht,ht,Fr.of_below hh.2,Moved.refl _ _,Moved.refl _ _⟩
 have grow:∀ (lie:Nat) e w',(∃ lv,e=.returned (.tuple #[.agg #[.slice sa sn sc,.slice pa pn pc,lv,.slice xa t1.cr.length xc,.int .i64 0,.bool false],.bool true])∧Own n0 136 2 w' lv (t1.li ++ [[(j:Int),(lie:Int)]])∧Own n0 136 2 w' (.slice la t1.li.length lc) t1.li∧Fr (fun k=>(Value.slice la t1.li.length lc).ownBlock=some k) w w'∧Moved w (.slice la t1.li.length lc) lv)→OvP n0 w t1 (.slice sa sn sc) (.slice pa pn pc) (.slice la t1.li.length lc) (.slice xa t1.cr.length xc) (some { t1 with li:=t1.li ++ [[(j:Int),(lie:Int)]] }) e w':=fun lie e w' hh=>by
  obtain ⟨lv,he,h1,h2,h3,h4⟩:=hh
  have ks:=h.s.keep (w':=w') lr fun g hg=>h3.block g (h.s.lt hg).2 (fun e=>h.s.ne h.l (by decide) hg e)
  have kx:=h.x.keep (w':=w') lr fun g hg=>h3.block g (h.x.lt hg).2 (fun e=>h.x.ne h.l (by decide) hg e)
  have kq:=h.q.keep (w':=w') lr fun g hg=>h3.block g (h.q.lt hg).2 (fun e=>h.q.ne h.l (by decide) hg e)
  exact ⟨lv,_,_,[],he,rfl,rfl,rfl,by simp,⟨ks,h1,kx,kq⟩,⟨ks,h2,kx,kq⟩,h3.mono (fun _ _ e=>.inl e),h4,Moved.refl _ _⟩
 rcases hkd with rfl | rfl | rfl
 ·have e1:t1.over 2 j q x=some t1:=by simp [Tl.over]
  rw [e1]
  exact (over100_plain sa pa la xa sn sc pn pc t1.li.length lc t1.cr.length xc 0 false j q x w).mono same
 ·have hqx:(q=0∧0<x)∨(0<q∧x=0):=by
   have h3:(3:Int).toNat=3:=rfl
   rw [h3] at hx
   unfold acrossF at hx
   split at hx <;> simp at hx <;> omega
  have hlt:∃ lie:Nat,0<lie∧(if q=0 then (x:Int) else (q:Int))=(lie:Int)∧((q<x∧lie=x)∨(¬q<x∧lie=q)):=by
   rcases hqx with ⟨rfl,h0⟩ | ⟨h0,rfl⟩
   ·exact ⟨x,h0,by simp,.inl ⟨h0,rfl⟩⟩
   ·exact ⟨q,h0,by rw [if_neg (by omega)],.inr ⟨by omega,rfl⟩⟩
  obtain ⟨lie,hl0,hle,hcase⟩:=hlt
  cases hf:lieF t1.li (j:Int) with
  | none=>
   have e1:t1.over 3 j q x=some { t1 with li:=t1.li ++ [[(j:Int),(lie:Int)]] }:=by simp [Tl.over,hf,hle]
   rw [e1]
   have hz:(lieF t1.li (j:Int)).getD 0=0:=by rw [hf];rfl
   rcases hcase with ⟨h1,rfl⟩ | ⟨h1,rfl⟩
   ·exact (over100_newa n0 sa pa la xa sn sc pn pc lc t1.cr.length xc t1.li 0 false j q lie w hB h.l (by omega) h1 hz).mono (grow lie)
   ·exact (over100_newb n0 sa pa la xa sn sc pn pc lc t1.cr.length xc t1.li 0 false j lie x w hB h.l (by omega) h1 hz).mono (grow lie)
  | some l=>
   have hl12:=lieF_one hli hf
   have hz:(lieF t1.li (j:Int)).getD 0=l:=by rw [hf];rfl
   have hls:=h.l.ls.mono zl (Below.refl w.heap.size w) lr
   by_cases hll:l=(lie:Int)
   ·have e1:t1.over 3 j q x=some t1:=by simp [Tl.over,hf,hle,hll]
    rw [e1]
    rcases hcase with ⟨h1,rfl⟩ | ⟨h1,rfl⟩
    ·exact (over100_samea sa pa la xa sn sc pn pc lc t1.cr.length xc t1.li 0 false j q lie w hls (by omega) h1 (by rw [hz,hll]) hl0).mono same
    ·exact (over100_sameb sa pa la xa sn sc pn pc lc t1.cr.length xc t1.li 0 false j lie x w hls (by omega) h1 (by rw [hz,hll]) hl0).mono same
   ·have e1:t1.over 3 j q x=none:=by simp [Tl.over,hf,hle,hll]
    rw [e1]
    rcases hcase with ⟨h1,rfl⟩ | ⟨h1,rfl⟩
    ·exact (over100_bada sa pa la xa sn sc pn pc lc t1.cr.length xc t1.li 0 false j q lie w hls (by omega) h1 (by rw [hz];omega) (by rw [hz];exact hll)).mono fun e w' hh=>hh
    ·exact (over100_badb sa pa la xa sn sc pn pc lc t1.cr.length xc t1.li 0 false j lie x w hls (by omega) h1 (by rw [hz];omega) (by rw [hz];exact hll)).mono fun e w' hh=>hh
 ·have e1:t1.over 4 j q x=some { t1 with cr:=t1.cr ++ [[(j:Int)]] }:=by simp [Tl.over]
  rw [e1]
  refine (over100_cross n0 sa pa la xa sn sc pn pc t1.li.length lc xc t1.cr 0 false j q x w hB h.x (by omega)).mono ?_
  rintro e w' ⟨xv,he,h1,h2,h3,h4⟩
  have ks:=h.s.keep (w':=w') lr fun g hg=>h3.block g (h.s.lt hg).2 (fun e=>h.s.ne h.x (by decide) hg e)
  have kl:=h.l.keep (w':=w') lr fun g hg=>h3.block g (h.l.lt hg).2 (fun e=>h.l.ne h.x (by decide) hg e)
  have kq:=h.q.keep (w':=w') lr fun g hg=>h3.block g (h.q.lt hg).2 (fun e=>h.q.ne h.x (by decide) hg e)
  exact ⟨_,xv,[],_,he,rfl,rfl,by simp,rfl,⟨ks,kl,h1,kq⟩,⟨ks,kl,h2,kq⟩,h3.mono (fun _ _ e=>.inr e),Moved.refl _ _,h4⟩
theorem CmS.overd {n0:Nat}{wB w:World}{D0 D:Nat→Prop}{J:Jt'}{pre:List (Option RtM)}{t:Tl}{sv pv lv xv:Value}{s q:List Rw}{sv1 pv1:Value}{tt:Int}{dn:Bool}{p:Nat}{way:Int}{W W':World}(hJ:JOk n0 J)(h:CmS n0 wB w D0 J pre D t sv pv lv xv s q sv1 pv1 tt dn p way W)
 (hf:Fr (fun k=>lv.ownBlock=some k∨xv.ownBlock=some k) W W') (ht:TlIn n0 W' { t with st:=s,pa:=q } sv1 lv xv pv1):CmS n0 wB w D0 J pre D t sv pv lv xv s q sv1 pv1 tt dn p way W':=by
 have hsz:=h.fr.size
 have tr:∀ k,(lv.ownBlock=some k∨xv.ownBlock=some k)→TrB sv pv lv xv k:=fun k e=>.inr (.inr e)
 have ol:∀ k,(lv.ownBlock=some k∨xv.ownBlock=some k)→k<w.heap.size:=fun k e=>h.old k (tr k e)
 refine ⟨h.nz,h.bel.trans (hf.below (Nat.le_trans h.nz hsz) (fun k hk e=>by have:=(h.tl.lt (tr k e)).1;omega)),h.fr.then hf (fun i _ e=>.inr (tr i e)),hJ.keep h.j hf.size (fun k hk=>hf.block k (hJ.lt h.j k hk).2 (fun e=>(h.nd k hk).1 (tr k e))),h.hd,h.nd,h.bx.keep (hf.block _ h.bx.lt (fun e=>by have:=ol _ e;omega)),h.bs.keep (hf.block _ h.bs.lt (fun e=>by have:=ol _ e;omega)),⟨?_,ht.l,ht.x,?_⟩,ht.s,ht.q,h.ms,h.mp,h.old⟩
 ·exact h.tl.s.keep lr fun g hg=>hf.block g (h.tl.s.lt hg).2 (fun e=>e.elim (fun e=>h.tl.s.ne h.tl.l (by decide) hg e) (fun e=>h.tl.s.ne h.tl.x (by decide) hg e))
 ·exact h.tl.q.keep lr fun g hg=>hf.block g (h.tl.q.lt hg).2 (fun e=>e.elim (fun e=>h.tl.q.ne h.tl.l (by decide) hg e) (fun e=>h.tl.q.ne h.tl.x (by decide) hg e))
theorem over_ok {v:Ev}{t1 t2:Tl}{j q x:Nat}(h:TlOk v t1)(hk:LieK t1.li)(hl:t1.li.length+1≤t1.st.length)(hc:t1.cr.length+1≤t1.st.length)(hj:j<v.m)(hx:x ∈ acrossF (v.J j).kd.toNat q)(ho:t1.over (v.J j).kd j q x=some t2):TlOk v t2∧LieK t2.li∧t2.st=t1.st:=by
 unfold Tl.over at ho
 by_cases h3:(v.J j).kd=3
 ·rw [if_pos h3] at ho
  have hx3:(if q=0 then (x:Int) else (q:Int))=1∨(if q=0 then (x:Int) else (q:Int))=2:=by
   rw [h3,show (3:Int).toNat=3 from rfl] at hx
   unfold acrossF at hx
   split at hx <;> simp at hx <;> (try (rcases hx with rfl | rfl)) <;> (try subst hx) <;> simp_all
  generalize (if q=0 then (x:Int) else (q:Int))=lie at ho hx3
  cases hf:lieF t1.li (j:Int) with
  | some l=>
   rw [hf] at ho
   simp only at ho
   by_cases hll:l=lie
   ·rw [if_pos hll] at ho
    cases ho
    exact ⟨h,hk,rfl⟩
   ·rw [if_neg hll] at ho
    cases ho
  | none=>
   rw [hf] at ho
   simp only [Option.some.injEq] at ho
   subst ho
   obtain ⟨n,rfl⟩:∃ n:Nat,lie=(n:Int):=⟨lie.toNat,by omega⟩
   exact ⟨h.lie hj h3 (by omega) hl,hk.snoc h.li (by omega) hf,rfl⟩
 ·rw [if_neg h3] at ho
  by_cases h4:(v.J j).kd=4
  ·rw [if_pos h4] at ho
   cases ho
   exact ⟨h.cross hc,hk,rfl⟩
  ·rw [if_neg h4] at ho
   cases ho
   exact ⟨h,hk,rfl⟩
structure LxS (n0:Nat)(wB w:World)(D0:Nat→Prop)(J:Jt')(pre:List (Option RtM))(D:Nat→Prop)(t:Tl)(sv pv lv xv:Value)(s q:List Rw)(sv1 pv1:Value)(p:Nat)(way:Int)(b5 be offe j jq:Nat)(xs:List Nat)(W:World):Prop where
 cm:CmS n0 wB w D0 J pre D t sv pv lv xv s q sv1 pv1 0 false p way W
 bj:Box W b5 128 #[.int .i64 (j:Int),.int .i64 (jq:Int)]
 ex:∀ i,i<xs.length→W.cell? ⟨be,offe+i,none⟩=some (.int .i64 ((xs.getD i 0:Nat):Int))
 lt:be<W.heap.size
 nd:∀ k,D k→k≠b5∧k≠be
 lo:w.heap.size+2≤b5∧b5<be
 ow:∀ g,(sv1.ownBlock=some g∨pv1.ownBlock=some g)→g<b5
section
variable {n0:Nat} {wB w:World} {D0 D D':Nat→Prop} {J J':Jt'} {pre pre':List (Option RtM)} {t:Tl} {sv pv lv xv lv2 xv2:Value} {s q ks kq kl kx:List Rw} {sv1 pv1:Value} {p:Nat} {way:Int} {b5 be offe j jq:Nat} {xs:List Nat} {W W':World}
theorem LxS.mono (hJ:JOk n0 J)(h:LxS n0 wB w D0 J pre D t sv pv lv xv s q sv1 pv1 p way b5 be offe j jq xs W)(hb:Below W.heap.size W W'):LxS n0 wB w D0 J pre D t sv pv lv xv s q sv1 pv1 p way b5 be offe j jq xs W':=
 ⟨h.cm.mono hJ hb,h.bj.mono hb lr,fun i hi=>(hb.cell (p:=⟨be,offe+i,none⟩) h.lt).trans (h.ex i hi),ltl h.lt hb.size,h.nd,h.lo,h.ow⟩
theorem LxS.overd (hJ:JOk n0 J)(h:LxS n0 wB w D0 J pre D t sv pv lv xv s q sv1 pv1 p way b5 be offe j jq xs W)(hf:Fr (fun k=>lv.ownBlock=some k∨xv.ownBlock=some k) W W')(ht:TlIn n0 W' { t with st:=s,pa:=q } sv1 lv xv pv1):LxS n0 wB w D0 J pre D t sv pv lv xv s q sv1 pv1 p way b5 be offe j jq xs W':=by
 have ol:∀ k,(lv.ownBlock=some k∨xv.ownBlock=some k)→k<w.heap.size:=fun k e=>h.cm.old k (.inr (.inr e))
 have hlo:=h.lo
 exact ⟨h.cm.overd hJ hf ht,h.bj.keep (hf.block _ h.bj.lt (fun e=>by have:=ol _ e;omega)),fun i hi=>(World.cell?_of_block (hf.block be h.lt (fun e=>by have:=ol _ e;omega))).trans (h.ex i hi),ltl h.lt hf.size,h.nd,h.lo,h.ow⟩
theorem LxS.child (hJ:JOk n0 J)(h:LxS n0 wB w D0 J pre D t sv pv lv xv (t.st ++ ks) (t.pa ++ kq) sv1 pv1 p way b5 be offe j jq xs W)
 (hl:Own n0 136 2 W lv2 (t.li ++ kl)) (hx:Own n0 3 1 W xv2 (t.cr ++ kx)) (hml:∀ g,lv2.ownBlock=some g→lv.ownBlock=some g∨be<g) (hmx:∀ g,xv2.ownBlock=some g→xv.ownBlock=some g∨be<g)
 (hf:Fr (fun k=>D k∨TrB sv1 pv1 lv2 xv2 k) W W') (hs':Own n0 100 2 W' sv1 (t.st ++ ks)) (hq':Own n0 104 3 W' pv1 (t.pa ++ kq)) (hl':Own n0 136 2 W' lv2 (t.li ++ kl)) (hx':Own n0 3 1 W' xv2 (t.cr ++ kx))
 (hD:∀ k,D' k→D k∨W.heap.size≤k) (hj:J' pre' W' D'):LxS n0 wB w D0 J' pre' D' t sv pv lv xv (t.st ++ ks) (t.pa ++ kq) sv1 pv1 p way b5 be offe j jq xs W':=by
 have hlo:=h.lo
 have hlt:=h.lt
 have hbj:=h.bj.lt
 have hm:∀ k,TrB sv1 pv1 lv2 xv2 k→(TrB sv pv lv xv k∨w.heap.size+2≤k)∧k≠b5∧k≠be:=fun k hk=>by
  rcases hk with e | e | e | e
  ·have:=h.ow k (.inl e)
   exact ⟨(h.cm.ms k e).imp .inl id,by omega,by omega⟩
  ·have:=h.ow k (.inr e)
   exact ⟨(h.cm.mp k e).imp (fun e=>.inr (.inl e)) id,by omega,by omega⟩
  ·rcases hml k e with e | e
   ·have:=h.cm.old k (.inr (.inr (.inl e)))
    exact ⟨.inl (.inr (.inr (.inl e))),by omega,by omega⟩
   ·exact ⟨.inr (by omega),by omega,by omega⟩
  ·rcases hmx k e with e | e
   ·have:=h.cm.old k (.inr (.inr (.inr e)))
    exact ⟨.inl (.inr (.inr (.inr e))),by omega,by omega⟩
   ·exact ⟨.inr (by omega),by omega,by omega⟩
 refine ⟨h.cm.child hJ hl hx (fun k hk=>(hm k hk).1) hf hs' hq' hl' hx' hD hj,h.bj.keep (hf.block _ hbj (fun e=>e.elim (fun e=>(h.nd _ e).1 rfl) (fun e=>(hm _ e).2.1 rfl))),fun i hi=>(World.cell?_of_block (hf.block be hlt (fun e=>e.elim (fun e=>(h.nd _ e).2 rfl) (fun e=>(hm _ e).2.2 rfl)))).trans (h.ex i hi),ltl hlt hf.size,fun k hk=>?_,h.lo,h.ow⟩
 rcases hD k hk with e | e
 ·exact h.nd k e
 ·exact ⟨by omega,by omega⟩
theorem LxS.fr (hJ:JOk n0 J)(h:LxS n0 wB w D0 J pre D t sv pv lv xv s q sv1 pv1 p way b5 be offe j jq xs W)(hf:Fr (fun k=>be<k∧¬D k) W W'):LxS n0 wB w D0 J pre D t sv pv lv xv s q sv1 pv1 p way b5 be offe j jq xs W':=by
 have hlo:=h.lo
 have hz:=h.cm.fr.size
 have hnz:=h.cm.nz
 have kb:∀ k,k<W.heap.size→k≤be→W'.heap[k]?=W.heap[k]?:=fun k hk hb=>hf.block k hk (fun e=>by omega)
 have hr:∀ k,TrB sv pv lv xv k→k≤be:=fun k hk=>by have:=h.cm.old k hk;omega
 have hc:CmS n0 wB w D0 J pre D t sv pv lv xv s q sv1 pv1 0 false p way W':=
  ⟨hnz,h.cm.bel.trans (hf.below (by omega) (fun k hk e=>by omega)),h.cm.fr.then hf (fun i hi e=>by omega),hJ.keep h.cm.j hf.size (fun k hk=>hf.block k (hJ.lt h.cm.j k hk).2 (fun e=>e.2 hk)),h.cm.hd,h.cm.nd,h.cm.bx.keep (kb _ h.cm.bx.lt (by omega)),h.cm.bs.keep (kb _ h.cm.bs.lt (by omega)),h.cm.tl.keep (fun k hk=>kb k (h.cm.tl.lt hk).2 (hr k hk)),h.cm.s1.keep lr (fun g hg=>kb g (h.cm.s1.lt hg).2 (by have:=h.ow g (.inl hg);omega)),h.cm.p1.keep lr (fun g hg=>kb g (h.cm.p1.lt hg).2 (by have:=h.ow g (.inr hg);omega)),h.cm.ms,h.cm.mp,h.cm.old⟩
 exact ⟨hc,h.bj.keep (kb _ h.bj.lt (by omega)),fun i hi=>(World.cell?_of_block (kb be h.lt lr)).trans (h.ex i hi),ltl h.lt hf.size,h.nd,h.lo,h.ow⟩
theorem LxS.alt (h:LxS n0 wB w D0 J pre D t sv pv lv xv s q sv1 pv1 p way b5 be offe j jq xs W)(hj:J' pre' W D):LxS n0 wB w D0 J' pre' D t sv pv lv xv s q sv1 pv1 p way b5 be offe j jq xs W:=
 ⟨⟨h.cm.nz,h.cm.bel,h.cm.fr,hj,h.cm.hd,h.cm.nd,h.cm.bx,h.cm.bs,h.cm.tl,h.cm.s1,h.cm.p1,h.cm.ms,h.cm.mp,h.cm.old⟩,h.bj,h.ex,h.lt,h.nd,h.lo,h.ow⟩
end
set_option maxRecDepth 10000 in
set_option maxHeartbeats 2000000 in
theorem walk30 (bt:Nat)(fr:Int)(w:World):
 Calls Tryz.prog 30 #[.pointer (some ⟨bt,0,none⟩),.int .i64 fr] w fun e w'=>e=.returned (.func (.func 66) #[] #[.pointer (some ⟨w.heap.size,0,none⟩),.pointer (some ⟨w.heap.size+1,0,none⟩)])∧w'=((w.alloc (.cells #[.pointer (some ⟨bt,0,none⟩)] 72)).alloc (.cells #[.int .i64 fr] 3)):=by
 go_enter Tryz.func30,Tryz.ntmps30
 go_wp2_with fail
 go_ret
 exact ⟨rfl,rfl⟩
set_option maxRecDepth 100000 in
set_option maxHeartbeats 8000000 in
theorem walk66 {v:Ev}(ok:v.Ok){n0:Nat}{wB:World}{bt l:Nat}{fr:Nat}{J Jx:Jt'}{pa:Option Addr}{pc:Nat}{ja:Option Addr}{jc:Nat}{sa:Option Addr}{sc:Nat}(hT:TkAt wB bt v pa pc ja jc sa sc)(hbt:wB.heap.size≤n0)(hJ:JOk n0 J)(hC:CmC v n0 wB bt l (fr:Int) J Jx (2*v.n+1))
 (pre:List (Option RtM)) (w:World) (D:Nat→Prop) (c1 c2:Nat) (hj:J pre w D) (hb:Below n0 wB w) (h1:Box w c1 72 #[.pointer (some ⟨bt,0,none⟩)]) (h2:Box w c2 3 #[.int .i64 (fr:Int)]) (hfr:fr<v.k) (hn:n0≤w.heap.size) (hnc:¬D c1):
 Calls Tryz.prog 66 #[.func (.yield l) #[] #[],.pointer (some ⟨c1,0,none⟩),.pointer (some ⟨c2,0,none⟩)] w (fun e W=>(∃ u,e=.returned u)∧∃ D':Nat→Prop,(∀ k,D' k→D k∨w.heap.size≤k)∧Fr D w W∧(J (pre ++ v.walk fr (2*v.n+1) ⟨[],[],[],[]⟩ (v.S fr).ln.toNat (v.S fr).br (farI (v.P (v.S fr).ln.toNat).ln (v.S fr).sp (v.S fr).br)) W D'∨∃ q,q <+: v.walk fr (2*v.n+1) ⟨[],[],[],[]⟩ (v.S fr).ln.toNat (v.S fr).br (farI (v.P (v.S fr).ln.toNat).ln (v.S fr).sp (v.S fr).br)∧Jx (pre ++ q) W D')):=by
 obtain ⟨g1,g2,g3,g4,g5⟩:=ok.sg fr hfr
 obtain ⟨p0,hp0⟩:∃ p0:Nat,Hid ((v.S fr).ln=(p0:Int)):=⟨(v.S fr).ln.toNat,by show (v.S fr).ln=_;omega⟩
 have hpn:p0<v.n:=by have:=hp0.out;omega
 rw [hp0.out,Int.toNat_natCast] at g5 ⊢
 have hlnp:=ok.ln p0 hpn
 have hen:0≤farI (v.P p0).ln (v.S fr).sp (v.S fr).br∧farI (v.P p0).ln (v.S fr).sp (v.S fr).br<(v.P p0).ln:=by unfold farI;split <;> omega
 have hsp:0≤(v.S fr).sp∧(v.S fr).sp≤10000000:=by omega
 have HC:Hid (CmC v n0 wB bt l (fr:Int) J Jx (2*v.n+1)):=hC
 have OK:Hid v.Ok:=ok
 have HT:Hid (TkAt wB bt v pa pc ja jc sa sc):=hT
 have HJ:Hid (JOk n0 J):=hJ
 have HJJ:Hid (J pre w D):=hj
 have HB:Hid (Below n0 wB w):=hb
 have HDl:Hid (∀ k,D k→k<w.heap.size):=fun k hk=>(hJ.lt hj k hk).2
 obtain ⟨bs,offs,rfl,_,hbs,hcs⟩:=hT.net.s (by omega)
 obtain ⟨s0,s1,s2,s3⟩:=hcs fr hfr
 rw [hp0.out] at s1
 have k0:=cell_keep hb (ltl hbs hbt) s0
 have k1:=cell_keep hb (ltl hbs hbt) s1
 have k2:=cell_keep hb (ltl hbs hbt) s2
 have k3:=cell_keep hb (ltl hbs hbt) s3
 have k4:w.cell? ⟨bt,2,none⟩=some (.slice (some ⟨bs,offs,none⟩) v.k sc):=(hT.mono hb hbt).s
 have k5:w.cell? ⟨c1,0,none⟩=some (.pointer (some ⟨bt,0,none⟩)):=h1.cell 0
 have k6:w.cell? ⟨c2,0,none⟩=some (.int .i64 (fr:Int)):=h2.cell 0
 have hc1:=h1.lt
 have hc2:=h2.lt
 have hbsl:bs<w.heap.size:=by have:=hb.size;omega
 have hbtl:bt<w.heap.size:=by have:=hT.lt;have:=hb.size;omega
 have HX1:Hid (Box w c1 72 #[.pointer (some ⟨bt,0,none⟩)]):=h1
 have hfi:(fr:Int)<(v.k:Int):=by omega
 have hf0:(0:Int)≤(fr:Int):=by omega
 clear hT hJ hC hj hb h1 h2 hcs s0 s1 s2 s3 ok g1 g2 g4 g5
 go_enter Tryz.func66,Tryz.ntmps66
 go_wp2_with fail
 go_region
 all_goals
  go_wp2_with fail
  have HBW:Hid (Below w.heap.size w ((w.alloc (.cells #[.string (v.S fr).nm,.int .i64 (p0:Int),.int .i64 (v.S fr).sp,.int .i64 (v.S fr).br] 56)).alloc (.cells #[.int .i64 (p0:Int),.int .i64 (v.S fr).br] 100)).drew):=(bel2 w (.cells #[.string (v.S fr).nm,.int .i64 (p0:Int),.int .i64 (v.S fr).sp,.int .i64 (v.S fr).br] 56) (.cells #[.int .i64 (p0:Int),.int .i64 (v.S fr).br] 100)).drew
  have HW1:Hid (Below n0 wB ((w.alloc (.cells #[.string (v.S fr).nm,.int .i64 (p0:Int),.int .i64 (v.S fr).sp,.int .i64 (v.S fr).br] 56)).alloc (.cells #[.int .i64 (p0:Int),.int .i64 (v.S fr).br] 100)).drew.drew∧True):=⟨HB.out.trans (HBW.out.drew.mono hn),trivial⟩
  have HX2:Hid (Box ((w.alloc (.cells #[.string (v.S fr).nm,.int .i64 (p0:Int),.int .i64 (v.S fr).sp,.int .i64 (v.S fr).br] 56)).alloc (.cells #[.int .i64 (p0:Int),.int .i64 (v.S fr).br] 100)).drew (w.heap.size+1) 100 #[.int .i64 (p0:Int),.int .i64 (v.S fr).br]):=by have:=Box.new (w.alloc (.cells #[.string (v.S fr).nm,.int .i64 (p0:Int),.int .i64 (v.S fr).sp,.int .i64 (v.S fr).br] 56)) 100 #[.int .i64 (p0:Int),.int .i64 (v.S fr).br];rw [World.size_alloc] at this;exact this
  have HX3:Hid (Box ((w.alloc (.cells #[.string (v.S fr).nm,.int .i64 (p0:Int),.int .i64 (v.S fr).sp,.int .i64 (v.S fr).br] 56)).alloc (.cells #[.int .i64 (p0:Int),.int .i64 (v.S fr).br] 100)).drew w.heap.size 56 #[.string (v.S fr).nm,.int .i64 (p0:Int),.int .i64 (v.S fr).sp,.int .i64 (v.S fr).br]):=(Box.new w 56 _).alloc _
  have d0:((w.alloc (.cells #[.string (v.S fr).nm,.int .i64 (p0:Int),.int .i64 (v.S fr).sp,.int .i64 (v.S fr).br] 56)).alloc (.cells #[.int .i64 (p0:Int),.int .i64 (v.S fr).br] 100)).drew.drew.cell? ⟨c1,0,none⟩=some (.pointer (some ⟨bt,0,none⟩)):=(HX1.out.mono HBW.out lr).cell 0
  have d1:((w.alloc (.cells #[.string (v.S fr).nm,.int .i64 (p0:Int),.int .i64 (v.S fr).sp,.int .i64 (v.S fr).br] 56)).alloc (.cells #[.int .i64 (p0:Int),.int .i64 (v.S fr).br] 100)).drew.drew.cell? ⟨w.heap.size+1,0,none⟩=some (.int .i64 (p0:Int)):=HX2.out.cell 0
  have d2:((w.alloc (.cells #[.string (v.S fr).nm,.int .i64 (p0:Int),.int .i64 (v.S fr).sp,.int .i64 (v.S fr).br] 56)).alloc (.cells #[.int .i64 (p0:Int),.int .i64 (v.S fr).br] 100)).drew.drew.cell? ⟨w.heap.size+1,1,none⟩=some (.int .i64 (v.S fr).br):=HX2.out.cell 1
  have d3:((w.alloc (.cells #[.string (v.S fr).nm,.int .i64 (p0:Int),.int .i64 (v.S fr).sp,.int .i64 (v.S fr).br] 56)).alloc (.cells #[.int .i64 (p0:Int),.int .i64 (v.S fr).br] 100)).drew.drew.cell? ⟨w.heap.size,2,none⟩=some (.int .i64 (v.S fr).sp):=HX3.out.cell 2
  have HCH:Hid (∀ W,Below w.heap.size w W→Calls Tryz.prog 67 #[.pointer (some ⟨bt,0,none⟩),.agg #[.slice none 0 0,.slice none 0 0,.slice none 0 0,.slice none 0 0,.int .i64 0,.bool false],.agg #[.int .i64 (p0:Int),.int .i64 (v.S fr).br],.int .i64 (farI (v.P p0).ln (v.S fr).sp (v.S fr).br),.func (.yield l) #[] #[]] W (fun e W'=>∃ (rb:Bool) (D2:Nat→Prop),e=.returned (.bool rb)∧Hid ((∀ k,D2 k→D k∨w.heap.size≤k)∧(J (pre ++ v.walk fr (2*v.n+1) ⟨[],[],[],[]⟩ p0 (v.S fr).br (farI (v.P p0).ln (v.S fr).sp (v.S fr).br)) W' D2∨∃ q,q <+: v.walk fr (2*v.n+1) ⟨[],[],[],[]⟩ p0 (v.S fr).br (farI (v.P p0).ln (v.S fr).sp (v.S fr).br)∧Jx (pre ++ q) W' D2))∧Fr D W W')):=fun W hW=>by
   have hnT:∀ k,¬TrB (.slice none 0 0) (.slice none 0 0) (.slice none 0 0) (.slice none 0 0) k:=fun k e=>by simp [TrB,Value.ownBlock] at e
   refine (HC.out pre W D ⟨[],[],[],[]⟩ _ _ _ _ p0 (v.S fr).br _ (HJ.out.keep HJJ.out hW.size (fun k hk=>hW.block k (HDl.out k hk))) (HB.out.trans (hW.mono hn)) ⟨Own.nil _ _ _ _,Own.nil _ _ _ _,Own.nil _ _ _ _,Own.nil _ _ _ _⟩ (fun k _=>hnT k) ⟨Once.nil _ _ _,fun r hr=>absurd hr (List.not_mem_nil),Nat.le_refl _,Nat.le_refl _,Nat.le_refl _⟩ LieK.nil hpn g3 hen.1 hen.2 (by simp)).mono ?_
   rintro e W2 ⟨D2,y1,y2,_,y4⟩
   have y5:Fr D W W2:=y2.mono (fun k _ e=>e.resolve_right (hnT k))
   have y6:∀ k,D2 k→D k∨w.heap.size≤k:=fun k hk=>(y1 k hk).imp id (fun e=>Nat.le_trans hW.size e)
   rcases y4 with ⟨y7,y8⟩ | ⟨y7,y8⟩
   ·exact ⟨true,D2,y7,⟨y6,.inl y8⟩,y5⟩
   ·exact ⟨false,D2,y7,⟨y6,.inr y8⟩,y5⟩
  clear k0 k1 k2 k3 k4 k5 k6
  go_region_held3 (fun w'=>w'.cell? ⟨c1,0,none⟩=some (.pointer (some ⟨bt,0,none⟩))∧w'.cell? ⟨w.heap.size+1,0,none⟩=some (.int .i64 (p0:Int))∧w'.cell? ⟨w.heap.size+1,1,none⟩=some (.int .i64 (v.S fr).br)∧w'.cell? ⟨w.heap.size,2,none⟩=some (.int .i64 (v.S fr).sp)) (go_keep) (first
   | (go_at_call 68;refine (along68 OK.out p0 (v.S fr).br (v.S fr).sp _ (HT.out.mono HW1.out.1 hbt) hpn hsp).mono ?_;rintro e w8 ⟨rfl,hb8⟩;have HW8:Hid (Below w.heap.size w w8):=HBW.out.drew.trans (hb8.mono HBW.out.drew.size);have HY1:Hid (Box w8 c1 72 #[.pointer (some ⟨bt,0,none⟩)]):=HX1.out.mono HW8.out lr;have HY2:Hid (Box w8 (w.heap.size+1) 100 #[.int .i64 (p0:Int),.int .i64 (v.S fr).br]):=HX2.out.drew.mono hb8 lr;have HY3:Hid (Box w8 w.heap.size 56 #[.string (v.S fr).nm,.int .i64 (p0:Int),.int .i64 (v.S fr).sp,.int .i64 (v.S fr).br]):=HX3.out.drew.mono hb8 lr;have m0:w8.cell? ⟨c1,0,none⟩=some (.pointer (some ⟨bt,0,none⟩)):=HY1.out.cell 0;have m1:w8.cell? ⟨w.heap.size+1,0,none⟩=some (.int .i64 (p0:Int)):=HY2.out.cell 0;have m2:w8.cell? ⟨w.heap.size+1,1,none⟩=some (.int .i64 (v.S fr).br):=HY2.out.cell 1;have m3:w8.cell? ⟨w.heap.size,2,none⟩=some (.int .i64 (v.S fr).sp):=HY3.out.cell 2)
   | (go_at_call 67;refine (HCH.out _ HW8.out).mono ?_;rintro e w9 ⟨rb,D2,rfl,HZ,hf9⟩;have z1:Box w9 c1 72 #[.pointer (some ⟨bt,0,none⟩)]:=HY1.out.keep (hf9.block c1 HY1.out.lt hnc);have z2:Box w9 (w.heap.size+1) 100 #[.int .i64 (p0:Int),.int .i64 (v.S fr).br]:=HY2.out.keep (hf9.block _ HY2.out.lt (fun e=>by have:=HDl.out _ e;omega));have z3:Box w9 w.heap.size 56 #[.string (v.S fr).nm,.int .i64 (p0:Int),.int .i64 (v.S fr).sp,.int .i64 (v.S fr).br]:=HY3.out.keep (hf9.block _ HY3.out.lt (fun e=>by have:=HDl.out _ e;omega));have u0:w9.cell? ⟨c1,0,none⟩=some (.pointer (some ⟨bt,0,none⟩)):=z1.cell 0;have u1:w9.cell? ⟨w.heap.size+1,0,none⟩=some (.int .i64 (p0:Int)):=z2.cell 0;have u2:w9.cell? ⟨w.heap.size+1,1,none⟩=some (.int .i64 (v.S fr).br):=z2.cell 1;have u3:w9.cell? ⟨w.heap.size,2,none⟩=some (.int .i64 (v.S fr).sp):=z3.cell 2))
  all_goals
   go_wp2_with fail
   (try simp only [Exit.inBlock,Exit.then])
   exact ⟨rfl,_,results_none (by kernel_rfl) _ _ _,⟨_,rfl⟩,D2,HZ.out.1,(Fr.of_below HW8.out).trans hf9,HZ.out.2⟩
theorem uponIn_round {l n:Nat}{P:Program}{o:Oper}{a:Act}{K K':Act→World→Prop}{Q:Exit→Act→World→Prop}(hK:∀ a w,K a w→K' a w):∀ r:Result Next,o.upon P a K Q r→o.uponIn (Fence.wide.inRound l) n P a K' Q r
 | .ok (.value v) w',h=>hK _ _ h
 | .ok .skip w',h=>hK _ _ h
 | .ok (.defer d) w',h=>hK _ _ h
 | .ok (.enter f args) w',h=>by
  refine ⟨fun e=>by simp [Fence.inRound,Fence.wide] at e,CallsIn.inRound l (callsIn_wide.2 (Calls.mono h ?_))⟩
  intro e w'' he
  cases e with
  | returned v=>exact hK _ _ he
  | panicked c=>exact he
  | outgrown=>exact he
 | .ok (.row row args) w',h=>⟨fun e=>by simp [Fence.inRound,Fence.wide] at e,fun c cs _=>let ⟨v,w2,r,s⟩:=h c cs;⟨v,w2,hK _ _ r,stepsIn_wide.2 s⟩⟩
 | .halt (.panic v) w',h=>h
theorem wpOpsIn_round {l n:Nat}{P:Program}{ops:Array Oper}{Q:Exit→Act→World→Prop}(hQ:¬LetsOut Q)(hd:∀ (i:Nat) (o:Oper),ops[i]?=some o→∀ c,o.op≠.defer c):∀ (is:List Nat) (a:Act) (w:World),wpOps P ops Q is a w→wpOpsIn (Fence.wide.inRound l) n P ops Q is a w
 | [],a,w,h=>h
 | i :: rest,a,w,h=>by
  simp only [wpOps] at h
  simp only [wpOpsIn]
  cases ho:ops[i]? with
  | none=>
   rw [ho] at h
   exact wpOpsIn_round hQ hd rest a w h
  | some o=>
   rw [ho] at h
   simp only at h ⊢
   by_cases hw:Region.wanted o (yielded ops a.tmps)=true
   ·rw [if_pos hw] at h ⊢
    rcases h with h | h
    ·refine ⟨fun f _=>trivial,?_⟩
     rw [Oper.semAt_eq _ _ _ (hd i o ho)]
     exact uponIn_round (fun a w hk=>wpOpsIn_round hQ hd rest a w hk) _ h
    ·exact absurd h.2 hQ
   ·rw [if_neg hw] at h ⊢
    exact ⟨fun f _=>trivial,wpOpsIn_round hQ hd rest _ w h⟩
theorem wpIn_region_held {l n:Nat}{P:Program}{id:Nat}{ops:Array Oper}{Q:Exit→Act→World→Prop}{S:World→Prop}{a:Act}{w:World}(hm:P.follows .mixedOrders=true)(hQ:¬LetsOut Q)(hd:∀ (i:Nat) (o:Oper),ops[i]?=some o→∀ c,o.op≠.defer c)(hS:S w.drew)
 (h:S w.drew→wpAnyH P .any ops Q S ops.size (Array.replicate ops.size false) a w.drew):(Code.region id ops true).wpIn (Fence.wide.inRound l) n P Q a w:=by
 refine wpIn_region_draw fun t=>wpOpsIn_round hQ hd _ _ _ ?_
 simp only [Region.schedule,hm,Bool.true_or,if_true]
 exact wpAny_sound ops.size t _ a _ (wpAny_of_held _ _ _ _ (h hS))
def Tr6 (sv lv xv qv ov fv:Value)(k:Nat):Prop:=sv.ownBlock=some k∨lv.ownBlock=some k∨xv.ownBlock=some k∨qv.ownBlock=some k∨ov.ownBlock=some k∨fv.ownBlock=some k
def rowBlk (row:List Value)(k:Nat):Prop:=∃ u,u ∈ row∧u.ownBlock=some k
def Apart (rows:List (List Value)):Prop:=(∀ (i j:Nat) (a b:List Value),i<j→rows[i]?=some a→rows[j]?=some b→∀ k,rowBlk a k→¬rowBlk b k)∧∀ (i:Nat) (a:List Value),rows[i]?=some a→∀ k,(a.getD 5 undef).ownBlock=some k→(a.getD 6 undef).ownBlock≠some k
theorem Apart.nil:Apart []:=⟨fun i j a b _ h=>by simp at h,fun i a h=>by simp at h⟩
theorem Apart.snoc {rows:List (List Value)}{row:List Value}(h:Apart rows)(h1:∀ (i:Nat) (a:List Value),rows[i]?=some a→∀ k,rowBlk a k→¬rowBlk row k)(h2:∀ k,(row.getD 5 undef).ownBlock=some k→(row.getD 6 undef).ownBlock≠some k):Apart (rows ++ [row]):=by
 refine ⟨fun i j a b hij ha hb=>?_,fun i a ha=>?_⟩
 ·have hj:=(List.getElem?_eq_some_iff.1 hb).1
  simp at hj
  rw [List.getElem?_append_left (by omega)] at ha
  by_cases hl:j<rows.length
  ·rw [List.getElem?_append_left hl] at hb
   exact h.1 i j a b hij ha hb
  ·have hj2:j=rows.length:=by omega
   subst hj2
   simp at hb
   subst hb
   exact h1 i a ha
 ·by_cases hl:i<rows.length
  ·rw [List.getElem?_append_left hl] at ha
   exact h.2 i a ha
  ·have hj:=(List.getElem?_eq_some_iff.1 ha).1
   simp at hj
   have hj2:i=rows.length:=by omega
   subst hj2
   simp at ha
   subst ha
   exact h2
theorem RtIs.blk {B:Nat}{w:World}{row:List Value}{r:RtM}{sv lv xv qv ov fv:Value}(h:RtIs B w row r sv lv xv qv ov fv){k:Nat}(hk:rowBlk row k):Tr6 sv lv xv qv ov fv k:=by
 obtain ⟨u,hu,e⟩:=hk
 rw [h.row] at hu
 simp at hu
 rcases hu with rfl | rfl | rfl | rfl | rfl | rfl | rfl | rfl
 ·simp [Value.ownBlock] at e
 ·simp [Value.ownBlock] at e
 ·exact .inl e
 ·exact .inr (.inl e)
 ·exact .inr (.inr (.inl e))
 ·exact .inr (.inr (.inr (.inl e)))
 ·exact .inr (.inr (.inr (.inr (.inl e))))
 ·exact .inr (.inr (.inr (.inr (.inr e))))
def RtB (r:RtM):Prop:=r.t.st.length≤1000∧r.t.pa.length≤1000∧r.t.li.length≤200∧r.t.cr.length≤1000∧r.ov.length≤100000∧r.fl.length≤60000
theorem bey_len (v:Ev):∀ (f:Nat) (left:Int) (p:Nat) (way far:Int),(v.bey f left p way far).length≤f
 | 0,_,_,_,_=>by simp [Ev.bey]
 | f+1,left,p,way,far=>by
  unfold Ev.bey
  split
  ·simp
  ·rw [List.length_cons]
   have go:∀ (c:Prop) [Decidable c] (l:List Rw),l.length≤f→(if c then [] else l).length≤f:=fun c _ l hl=>by
    split
    ·simp
    ·exact hl
   exact Nat.succ_le_succ (go _ _ (bey_len v f _ _ _ _))
theorem ovOf_len {v:Ev}(ok:v.Ok)(tt:Int):(ovOf v tt).length≤100000:=by
 unfold ovOf
 split
 ·have h1:=bey_len v v.ov.toNat v.ov (v.S tt.toNat).ln.toNat (v.S tt.toNat).br (farI (v.P (v.S tt.toNat).ln.toNat).ln (v.S tt.toNat).sp (v.S tt.toNat).br)
  have h2:=ok.o1
  omega
 ·simp
def OutP (B:Nat)(w:World)(u:Value)(rs:List RtM):Prop:=
 ∃ rows:List (List Value),rows.length=rs.length∧w.ownsRow B 64 8 u rs.length rows.flatten∧(∀ (i:Nat) (r:RtM),rs[i]?=some r→∃ row sv lv xv qv ov fv,rows[i]?=some row∧RtIs B w row r sv lv xv qv ov fv)∧Apart rows∧∀ r,r ∈ rs→RtB r
theorem OutP.out {B:Nat}{w:World}{u:Value}{rs:List RtM}(h:OutP B w u rs):OutAt B w u rs:=by
 obtain ⟨rows,h1,h2,h3,_⟩:=h
 exact ⟨rows,h1,h2,h3⟩
theorem OutP.nil (B:Nat)(w:World):OutP B w (.slice none 0 0) []:=⟨[],rfl,by simpa using World.ownsRow_nil w B 64 8,fun i r h=>by simp at h,Apart.nil,fun r h=>by simp at h⟩
theorem OutP.lower {B B':Nat}{w:World}{v:Value}{rs:List RtM}(h:OutP B w v rs)(hb:B'≤B):OutP B' w v rs:=by
 obtain ⟨rows,h1,h2,h3,h4⟩:=h
 refine ⟨rows,h1,ownsRow_lower h2 hb,fun i r hr=>?_,h4⟩
 obtain ⟨row,sv,lv,xv,qv,ov,fv,k1,k2⟩:=h3 i r hr
 exact ⟨row,sv,lv,xv,qv,ov,fv,k1,⟨k2.row,k2.s.keep hb fun _ _=>rfl,k2.l.keep hb fun _ _=>rfl,k2.x.keep hb fun _ _=>rfl,k2.q.keep hb fun _ _=>rfl,k2.o.keep hb fun _ _=>rfl,k2.f.keep hb fun _ _=>rfl⟩⟩
def OutD (D:Nat→Prop)(B:Nat)(w:World)(u:Value)(rs:List RtM):Prop:=
 (∀ k,u.ownBlock=some k→D k)∧∃ rows:List (List Value),rows.length=rs.length∧w.ownsRow B 64 8 u rs.length rows.flatten∧(∀ (i:Nat) (r:RtM),rs[i]?=some r→∃ row sv lv xv qv ov fv,rows[i]?=some row∧RtIs B w row r sv lv xv qv ov fv∧∀ k,Tr6 sv lv xv qv ov fv k→D k)∧Apart rows∧∀ r,r ∈ rs→RtB r
theorem RtIs.keepD {B:Nat}{w w':World}{row:List Value}{r:RtM}{sv lv xv qv ov fv:Value}(h:RtIs B w row r sv lv xv qv ov fv)(hk:∀ k,Tr6 sv lv xv qv ov fv k→w'.heap[k]?=w.heap[k]?):RtIs B w' row r sv lv xv qv ov fv:=
 ⟨h.row,h.s.keep lr fun g hg=>hk g (.inl hg),h.l.keep lr fun g hg=>hk g (.inr (.inl hg)),h.x.keep lr fun g hg=>hk g (.inr (.inr (.inl hg))),h.q.keep lr fun g hg=>hk g (.inr (.inr (.inr (.inl hg)))),h.o.keep lr fun g hg=>hk g (.inr (.inr (.inr (.inr (.inl hg))))),h.f.keep lr fun g hg=>hk g (.inr (.inr (.inr (.inr (.inr hg)))))⟩
theorem OutD.keep {D:Nat→Prop}{B:Nat}{w w':World}{u:Value}{rs:List RtM}(h:OutD D B w u rs)(hk:∀ k,D k→w'.heap[k]?=w.heap[k]?):OutD D B w' u rs:=by
 obtain ⟨h0,rows,h1,h2,h3,h4⟩:=h
 refine ⟨h0,rows,h1,ownsRow_keep h2 (fun g hg=>hk g (h0 g hg)),fun i r hr=>?_,h4⟩
 obtain ⟨row,sv,lv,xv,qv,ov,fv,k1,k2,k3⟩:=h3 i r hr
 exact ⟨row,sv,lv,xv,qv,ov,fv,k1,k2.keepD (fun k e=>hk k (k3 k e)),k3⟩
theorem OutD.mono {D D':Nat→Prop}{B:Nat}{w:World}{u:Value}{rs:List RtM}(h:OutD D B w u rs)(hD:∀ k,D k→D' k):OutD D' B w u rs:=by
 obtain ⟨h0,rows,h1,h2,h3,h4⟩:=h
 refine ⟨fun k e=>hD k (h0 k e),rows,h1,h2,fun i r hr=>?_,h4⟩
 obtain ⟨row,sv,lv,xv,qv,ov,fv,k1,k2,k3⟩:=h3 i r hr
 exact ⟨row,sv,lv,xv,qv,ov,fv,k1,k2,fun k e=>hD k (k3 k e)⟩
theorem OutD.outP {D:Nat→Prop}{B:Nat}{w:World}{u:Value}{rs:List RtM}(h:OutD D B w u rs):OutP B w u rs:=by
 obtain ⟨_,rows,h1,h2,h3,h4⟩:=h
 refine ⟨rows,h1,h2,fun i r hr=>?_,h4⟩
 obtain ⟨row,sv,lv,xv,qv,ov,fv,k1,k2,_⟩:=h3 i r hr
 exact ⟨row,sv,lv,xv,qv,ov,fv,k1,k2⟩
theorem OutD.out {D:Nat→Prop}{B:Nat}{w:World}{u:Value}{rs:List RtM}(h:OutD D B w u rs):OutAt B w u rs:=h.outP.out
theorem OutD.nil (D:Nat→Prop)(B:Nat)(w:World):OutD D B w (.slice none 0 0) []:=⟨fun k e=>by simp [Value.ownBlock] at e,[],rfl,by simpa using World.ownsRow_nil w B 64 8,fun i r h=>by simp at h,Apart.nil,fun r h=>by simp at h⟩
def Dx (D:Nat→Prop)(bo bc b7 b10 l ld:Nat)(k:Nat):Prop:=D k∧k≠bo∧k≠bc∧k≠b7∧k≠b10∧k≠l∧k≠ld
structure JR (n0 bt bo bc b7 b10 l ld:Nat)(fr:Int)(lp:Loop)(pre:List (Option RtM))(W:World)(D:Nat→Prop):Prop where
 o:∃ out,Box W bo 29 #[out]∧OutD (Dx D bo bc b7 b10 l ld) n0 W out (routesOf pre)
 c:Box W bc 3 #[.int .i64 (pre.length:Int)]
 t:Box W b7 72 #[.pointer (some ⟨bt,0,none⟩)]
 f:Box W b10 3 #[.int .i64 fr]
 r:W.heap[l]?=some (.loop lp)
 d:W.heap[ld]?=some (.deferred (some []))
 m:pre.length≤20000
 k:(routesOf pre).length≤300
 own:D bo∧D bc∧D b7∧D b10∧D l∧D ld
 lt:∀ k,D k→n0≤k∧k<W.heap.size
structure JX (n0 l ld:Nat)(lp:Loop)(pre:List (Option RtM))(W:World)(D:Nat→Prop):Prop where
 r:W.heap[l]?=some (.loop { lp with state:=.done,pending:=some .ret })
 d:W.heap[ld]?=some (.deferred (some []))
 own:D l∧D ld
 lt:∀ k,D k→n0≤k∧k<W.heap.size
 x:20000<pre.length∨300<(routesOf pre).length
theorem JR.ok (n0 bt bo bc b7 b10 l ld:Nat)(fr:Int)(lp:Loop):JOk n0 (JR n0 bt bo bc b7 b10 l ld fr lp):=
 ⟨fun {pre W W' D} h hs hk=>by
  obtain ⟨o1,o2,o3,o4,o5,o6⟩:=h.own
  obtain ⟨out,b1,b2⟩:=h.o
  exact ⟨⟨out,b1.keep (hk _ o1),b2.keep (fun k hd=>hk k hd.1)⟩,h.c.keep (hk _ o2),h.t.keep (hk _ o3),h.f.keep (hk _ o4),(hk _ o5).trans h.r,(hk _ o6).trans h.d,h.m,h.k,h.own,fun k hd=>⟨(h.lt k hd).1,ltl (h.lt k hd).2 hs⟩⟩,
 fun h=>h.lt⟩
end Go.Proofs.YtkhaehpobpkkiaaGreat
