import Derived.Test.YtkeilejbelblcaaGreatDoorDv
import Derived.Test.YtkeilejbelblcaaGreatDoorJbr
import Derived.Test.YtkeilejbelblcaaGreatDoorJbc
import Derived.Test.YtkeilejbelblcaaGreatDoorJax
import Derived.Test.YtkeilejbelblcaaGreatDoorJau
import Derived.Test.YtkeilejbelblcaaGreatDoorJac
namespace Go.Proofs.YtkeilejbelblcaaGreatDoor
open Go.RowKit Go.Lib
theorem HsAt.like {C:Nat}{w:World}{a:Option Addr}{n:Nat}{Y Z:Nat->Hl}(h:HsAt C w a n Y) (e:∀i,i<n->likeH (Y i) (Z i)):HsAt C w a n Z:=by
 intro h0
 obtain⟨b,off,ha,hge,hlt,hc⟩:=h h0
 refine⟨b,off,ha,hge,hlt,fun i hi=>?_⟩
 obtain⟨ra,rc,c0,c1,c2,c3,c4,g⟩:=hc i hi
 obtain⟨e0,e1,e2,e3,e4,e5⟩:=e i hi
 rw[e0] at c0
 rw[e1] at c1
 rw[e2] at c2
 rw[e4] at c3
 rw[e5] at c4
 refine⟨ra,rc,c0,c1,c2,c3,c4,?_⟩
 rw[←e2]
 intro hq
 obtain⟨b2,off2,ha2,hge2,hlt2,hc2⟩:=g hq
 refine⟨b2,off2,ha2,hge2,hlt2,fun j hj k hk=>?_⟩
 have :=hc2 j hj k hk
 simp only[boolF,e3 j hj] at this
 exact this
theorem ev_ny {p:Pl}{op o lie:Int}(h:evF p op o lie=true) (hx:op=1\/op=2):o.toNat<p.ny:=by
 unfold evF at h
 rw[if_pos hx] at h
 simp only[Bool.and_eq_true,decide_eq_true_eq,inB] at h
 omega
theorem sp_df (p:Pl) (f:Fm) (op o lie:Int):spA p f op o lie=dfC p f op o lie/\(spG p f op o lie).ok=(dfF p f op o lie).ok/\(spG p f op o lie).no=(dfF p f op o lie).no/\(spG p f op o lie).np=(dfF p f op o lie).np/\(spG p f op o lie).nh=(dfF p f op o lie).nh/\(spG p f op o lie).O=(dfF p f op o lie).O/\(spG p f op o lie).P=(dfF p f op o lie).P/\∀i,i<(dfF p f op o lie).nh->likeH ((spG p f op o lie).Y i) ((dfF p f op o lie).Y i):=by
 unfold spA dfC spG dfF
 by_cases hg:dfG p f op o lie=true
 ·
  rw[if_pos hg,if_pos hg,if_pos hg,if_pos hg]
  have hg':=hg
  simp only[dfG,Bool.and_eq_true] at hg'
  obtain⟨hf,he⟩:=hg'
  have hx:=ev_ny he
  have hz:sizesB p f=true:=by
   simp only[frameB,Bool.and_eq_true] at hf
   exact hf.1
  obtain⟨_,_,hok,_,_,hnh⟩:=sizes_ok hz
  obtain⟨s1,s2,s3,s4⟩:=spF_shape p f op o.toNat lie
  obtain⟨q1,q2⟩:=sp_same hf (lie:=lie) (fun h=>hx (.inl h))
  refine⟨sp_code hf hx,s1.trans hok,s2,s3,s4.trans hnh,q1,q2,fun i hi=>?_⟩
  have k:=sp_like hf (lie:=lie) hx hi
  show likeH (setH (vwOf (p.Y i) (spF p f op o.toNat lie).O (spF p f op o.toNat lie).P) ((spF p f op o.toNat lie).Y i)) (dfY p (dfD p f op o lie) i)
  have h9:=setH_like (v:=vwOf (p.Y i) (spF p f op o.toNat lie).O (spF p f op o.toNat lie).P) k.2 (by rw[k.2.2.2.1];exact(stateF_cases k.1).1)
  rw[show(p.Y i).ns=(vwOf (p.Y i) (spF p f op o.toNat lie).O (spF p f op o.toNat lie).P).n from rfl,←held_settle] at h9
  rw[q1,q2] at h9⊢
  exact h9.symm
 ·
  rw[if_neg hg,if_neg hg,if_neg hg,if_neg hg]
  exact⟨rfl,rfl,rfl,rfl,rfl,rfl,rfl,fun i hi=>absurd hi (Nat.not_lt_zero _)⟩
theorem df_small {p:Pl}{f:Fm}(hp:p.small) (hf:f.small) (op o lie:Int):(dfF p f op o lie).small:=by
 unfold dfF
 split
 ·
  next hg=>
  simp only[dfG,Bool.and_eq_true] at hg
  have hz:sizesB p f=true:=by
   have h:=hg.1
   simp only[frameB,Bool.and_eq_true] at h
   exact h.1
  refine⟨hf.1,hf.2.1,hp.2.1,fun i hi=>?_⟩
  have :=(hp.2.2.1 i hi).1
  have e:(dfY p (dfD p f op o lie) i).nb=(p.Y i).ns:=by
   unfold dfY
   generalize WS.settle _ _=s
   cases s<;>rfl
  show(dfY p (dfD p f op o lie) i).nb<=_
  omega
 ·
  exact⟨Nat.zero_le _,Nat.zero_le _,Nat.zero_le _,fun i hi=>absurd hi (Nat.not_lt_zero _)⟩
theorem SpD.df {w w':World}{p:Pl}{f:Fm}{op o lie:Int}{e:Ending}(h:SpD w (spA p f op o lie) (spG p f op o lie) e w'):SpD w (dfC p f op o lie) (dfF p f op o lie) e w':=by
 obtain⟨e0,e1,e2,e3,e4,e5,e6,e7⟩:=sp_df p f op o lie
 obtain⟨oa,pa,ha,oc,pc,hc,he,⟨i1,i2,i3⟩,hb⟩:=h
 rw[e0,e1,e2,e3,e4] at he
 rw[e2,e5] at i1
 rw[e3,e6] at i2
 rw[e4] at i3
 exact⟨oa,pa,ha,oc,pc,hc,he,⟨i1,i2,i3.like e7⟩,hb⟩
end Go.Proofs.YtkeilejbelblcaaGreatDoor
namespace Go.Proofs.YtkeilejbelblcaaGreatDoor
open Go.RowKit

def mkH (y:Hl) (k:Nat):Hl:=⟨(k:Int),((k+1:Nat):Int),y.nb,fun j=>trM ((k+2+j:Nat):Int),trM ((k+2+y.nb:Nat):Int),((k+2+y.nb+1:Nat):Int)⟩
def kAt (Y:Nat->Hl) (k:Nat):Nat->Nat
 |0=>k
 |q+1=>kAt Y k q+2+(Y q).nb+1+1
def mkY (Y:Nat->Hl) (k i:Nat):Hl:=mkH (Y i) (kAt Y k i)
def mixY (Y:Nat->Hl) (k q i:Nat):Hl:=if i<q then mkY Y k i else Y i
theorem mixY_ne (Y:Nat->Hl) (k:Nat) {q i:Nat}(h:i≠q):mixY Y k (q+1) i=mixY Y k q i:=by
 unfold mixY
 by_cases c:i<q
 ·
  rw[if_pos c,if_pos (by omega)]
 ·
  rw[if_neg c,if_neg (by omega)]
theorem kAt_le (Y:Nat->Hl) (k:Nat) {n:Nat}(h:∀i,i<n->(Y i).nb<=1048576):∀q,q<=n->kAt Y k q<=k+q*1048580
 |0,_=>by simp[kAt]
 |q+1,hq=>by
  have h1:=kAt_le Y k h q (by omega)
  have h2:=h q (by omega)
  simp only[kAt]
  omega
set_option maxRecDepth 100000 in
set_option maxHeartbeats 8000000 in
theorem mark46 (B:Nat) (a:Option Addr) (n c:Nat) (Y:Nat->Hl) (r rc:Nat->Nat) (k:Nat) (w:World) (hn:n<=1048576) (hk:k<=70000000000000) (hL:∀i,i<n->(Y i).nb<=1048576) (hQ:HsG B w (.slice a n c) n Y r rc):
  Calls Tryz.prog 64 #[.slice a n c,.int .i64 (k:Int)] w fun e w'=>e=.returned (.int .i64 ((kAt Y k n:Nat):Int))/\HsG B w' (.slice a n c) n (mkY Y k) r rc/\Fr (fun b=>(Value.slice a n c).ownBlock=some b\/∃i,i<n/\b=r i) w w':=by
 have HQ:Hid (HsG B w (.slice a n c) n Y r rc):=hQ
 have HL:Hid (∀i,i<n->(Y i).nb<=1048576):=hL
 clear hQ hL
 go_enter Tryz.func64,Tryz.ntmps64
 go_wp2_with fail
 go_loopw [1,5] (fun l i wr=>∃q:Nat,q<=n/\i=.int .i64 (q:Int)/\l=.int .i64 ((kAt Y k q:Nat):Int)/\Hid (HsG B wr (.slice a n c) n (mixY Y k q) r rc/\Fr (fun b=>(Value.slice a n c).ownBlock=some b\/∃i,i<n/\b=r i) w wr)) (fun _ i _=>n-(intOf i).toNat)
 case atStart=>exact⟨0,Nat.zero_le _,rfl,rfl,HQ.out,Fr.refl _ _⟩
 case round=>
  obtain⟨q,hq,rfl,rfl,M⟩:=hrel
  by_cases hlt:q<n
  ·
   obtain⟨g,ha,hBg,_⟩:=M.out.1.own.addr (by omega)
   subst ha
   have hq0:(0:Int)<=(q:Int):=by omega
   have hqn:(q:Int)<(n:Int):=by omega
   have hkq:=kAt_le Y k HL.out q (by omega)
   have hnb:=HL.out q hlt
   obtain⟨x,hx⟩:∃x,Hid (kAt Y k q=x):=⟨_,rfl⟩
   rw[hx.out] at hkq
   rw[hx.out]
   obtain⟨m,hm⟩:∃m,Hid ((Y q).nb=m):=⟨_,rfl⟩
   rw[hm.out] at hnb
   have mixq:mixY Y k q q=Y q:=if_neg (Nat.lt_irrefl _)
   have hrow:=(M.out.1.row q hlt)
   rw[mixq,hm.out] at hrow
   have T0:=M.out.1.own
   have T1:=T0.store hlt (j:=0) (by omega) (.int .i64 (x:Int))
   rw[Nat.add_zero] at T1
   have T2:=T1.store hlt (j:=1) (by omega) (.int .i64 ((x+1:Nat):Int))
   have bx:∃cur,Box wr g 72 cur:=T0.box rfl
   obtain⟨cur,hbx⟩:=bx
   have K:∀(u v:Value) b cu,Box wr b 4 cu->((wr.setCell (ad g (q*5)) u).setCell (ad g (q*5+1)) v).heap[b]?=wr.heap[b]?:=fun u v b cu hb=>by
    have hne:b≠g:=hb.ne hbx (by decide)
    rw[Below.heap_setCell _ _ _ _ hne,Below.heap_setCell _ _ _ _ hne]
   have hr2:=hrow.by_ (K (.int .i64 (x:Int)) (.int .i64 ((x+1:Nat):Int)))
   have HM44:Hid (Calls Tryz.prog 62 #[.slice (some (ad (r q) 0)) m (rc q),.int .i64 ((x+2:Nat):Int)] ((wr.setCell (ad g (q*5)) (.int .i64 (x:Int))).setCell (ad g (q*5+1)) (.int .i64 ((x+1:Nat):Int))) fun e w'=>e=.returned (.int .i64 ((x+2+m:Nat):Int))∧
     (∃cur,Box w' g 72 cur)/\w'.cell? (ad g (q*5+3))=some (.bool (Y q).shown)/\w'.frozen? (ad g (q*5+3))=false/\w'.cell? (ad g (q*5+4))=some (.int .i64 (Y q).timer)/\w'.frozen? (ad g (q*5+4))=false∧
     HsG B ((w'.setCell (ad g (q*5+3)) (.bool (trM ((x+2+m:Nat):Int)))).setCell (ad g (q*5+4)) (.int .i64 ((x+2+m+1:Nat):Int))) (.slice (some (ad g 0)) n c) n (mixY Y k (q+1)) r rc/\Fr (fun b=>(Value.slice (some (ad g 0)) n c).ownBlock=some b\/∃i,i<n/\b=r i) w ((w'.setCell (ad g (q*5+3)) (.bool (trM ((x+2+m:Nat):Int)))).setCell (ad g (q*5+4)) (.int .i64 ((x+2+m+1:Nat):Int)))):=by
    refine(mark44 B (some (ad (r q) 0)) m (rc q) (Y q).B (x+2) _ hnb (by omega) hr2).mono ?_
    rintro e w' ⟨he,hv,hf⟩
    have T3:VOwn B 72 5 w' (.slice (some (ad g 0)) n c) n _:=T2.by_ fun b cu hb=>hf.block b hb.lt fun e=>by
     have e':=own_block e
     obtain⟨c4,hc4⟩:=hr2.box (g:=r q) rfl
     exact hb.ne hc4 (by decide) e'
    have T4:=T3.store hlt (j:=3) (by omega) (.bool (trM ((x+2+m:Nat):Int)))
    have T5:=T4.store hlt (j:=4) (by omega) (.int .i64 ((x+2+m+1:Nat):Int))
    obtain⟨c5,hb5⟩:=T3.box (g:=g) rfl
    have K2:∀(u v:Value) b cu,Box w' b 4 cu->((w'.setCell (ad g (q*5+3)) u).setCell (ad g (q*5+4)) v).heap[b]?=w'.heap[b]?:=fun u v b cu hb=>by
     have hne:b≠g:=hb.ne hb5 (by decide)
     rw[Below.heap_setCell _ _ _ _ hne,Below.heap_setCell _ _ _ _ hne]
    have d3:=T3.cell hlt (j:=3) (by omega)
    have d4:=T3.cell hlt (j:=4) (by omega)
    refine⟨he,⟨c5,hb5⟩,?_,T3.free _,?_,T3.free _,⟨T5.congr fun i hi j hj=>?_,fun i hi=>?_,M.out.1.inj⟩,?_⟩
    ·
     rw[d3]
     simp[upd,hlG,mixq]
    ·
     rw[d4]
     simp[upd,hlG,mixq]
    ·
     unfold upd
     by_cases e:i=q
     ·
      subst e
      have e1:mixY Y k (i+1) i=mkH (Y i) x:=by rw[mixY,if_pos (by omega),mkY,hx.out]
      rcases(show j=0\/j=1\/j=2\/j=3\/j=4 by omega) with rfl|rfl|rfl|rfl|rfl<;>simp[hlG,e1,mkH,mixq,hm.out]
     ·
      have e1:mixY Y k (q+1) i=mixY Y k q i:=mixY_ne Y k e
      simp[e,hlG,e1]
    ·
     by_cases e:i=q
     ·
      subst e
      have e1:mixY Y k (i+1) i=mkH (Y i) x:=by rw[mixY,if_pos (by omega),mkY,hx.out]
      rw[e1]
      have :=hv.by_ (K2 (.bool (trM ((x+2+m:Nat):Int))) (.int .i64 ((x+2+m+1:Nat):Int)))
      show VOwn B 4 1 _ (.slice (some (ad (r i) 0)) (Y i).nb (rc i)) (Y i).nb _
      rw[hm.out]
      exact this
     ·
      have e1:mixY Y k (q+1) i=mixY Y k q i:=mixY_ne Y k e
      rw[e1]
      have h1:=(M.out.1.row i hi).by_ (K (.int .i64 (x:Int)) (.int .i64 ((x+1:Nat):Int)))
      have h2:=h1.fr hf fun g' e' e''=>by
       have a1:=own_block e'
       have a2:=own_block e''
       exact e (M.out.1.inj i hi q hlt (by omega))
      exact h2.by_ (K2 _ _)
    ·
     have hf2:Fr (fun b=>(Value.slice (some (ad g 0)) n c).ownBlock=some b\/∃i,i<n/\b=r i) ((wr.setCell (ad g (q*5)) (.int .i64 (x:Int))).setCell (ad g (q*5+1)) (.int .i64 ((x+1:Nat):Int))) w':=hf.mono fun b _ e=>.inr ⟨q,hlt,own_block e⟩
     exact((((M.out.2.cells (.inl rfl) _ _).cells (.inl rfl) _ _).trans hf2).cells (.inl rfl) _ _).cells (.inl rfl) _ _
   have d0:wr.cell? (ad g (q*5))=some (.int .i64 (Y q).st):=by have :=T0.cell hlt (j:=0) (by omega);simpa [hlG,mixq] using this
   have d1:wr.cell? (ad g (q*5+1))=some (.int .i64 (Y q).gone):=by have :=T0.cell hlt (j:=1) (by omega);simpa [hlG,mixq] using this
   have d2:wr.cell? (ad g (q*5+2))=some (.slice (some (ad (r q) 0)) m (rc q)):=by have :=T0.cell hlt (j:=2) (by omega);simpa [hlG,mixq,hm.out] using this
   have f0:=T0.free (q*5)
   have f1:=T0.free (q*5+1)
   have HX:Hid (kAt Y k (q+1)=x+2+m+1+1):=by show kAt Y k q+2+(Y q).nb+1+1=_;rw[hx.out,hm.out]
   clear M hrow T0 T1 T2 hbx K hr2 mixq
   go_wp2_with fail
   refine HM44.out.mono ?_
   rintro e w' ⟨rfl,_,c3,f3,c4,f4,hH,hF⟩
   have M2:Hid (HsG B ((w'.setCell (ad g (q*5+3)) (.bool (trM ((x+2+m:Nat):Int)))).setCell (ad g (q*5+4)) (.int .i64 ((x+2+m+1:Nat):Int))) (.slice (some (ad g 0)) n c) n (mixY Y k (q+1)) r rc/\Fr (fun b=>(Value.slice (some (ad g 0)) n c).ownBlock=some b\/∃i,i<n/\b=r i) w ((w'.setCell (ad g (q*5+3)) (.bool (trM ((x+2+m:Nat):Int)))).setCell (ad g (q*5+4)) (.int .i64 ((x+2+m+1:Nat):Int)))):=⟨hH,hF⟩
   clear HM44 hH hF
   go_wp2_with fail
   go_roundw
   case rel=>exact⟨q+1,by omega,by go_num,by rw[HX.out];go_num,M2⟩
   case measure=>simp[intOf];omega
  ·
   have hge:¬((q:Int)<(n:Int)):=by omega
   have hqn:q=n:=by omega
   have HR:Hid (HsG B wr (.slice a n c) n (mkY Y k) r rc/\Fr (fun b=>(Value.slice a n c).ownBlock=some b\/∃i,i<n/\b=r i) w wr):=by
    obtain⟨h1,h2,h3⟩:=M.out.1
    have e:∀i,i<n->mixY Y k q i=mkY Y k i:=fun i hi=>if_pos (by omega)
    refine⟨⟨h1.congr fun i hi j _=>by simp only[hlG,e i hi],fun i hi=>?_,h3⟩,M.out.2⟩
    have :=h2 i hi
    rw[e i hi] at this
    exact this
   have HK:Hid (kAt Y k q=kAt Y k n):=congrArg (kAt Y k) hqn
   clear M
   go_wp2_with fail
   go_ret
   exact⟨by first |rfl|(rw[<-HK.out];rfl),HR.out⟩

end Go.Proofs.YtkeilejbelblcaaGreatDoor
namespace Go.Proofs.YtkeilejbelblcaaGreatDoor
open Go.RowKit Go.Lib

structure FmG (B:Nat) (w:World) (f:Fm) (ov pv hv:Value) (r rc:Nat->Nat):Prop where
 o:VOwn B 4 1 w ov f.no (boolF f.O)
 p:VOwn B 69 2 w pv f.np (intF f.P)
 h:HsG B w hv f.nh f.Y r rc
 ne:∀g,ov.ownBlock=some g->∀i,i<f.nh->r i≠g
def FmLt (D:Nat) (f:Fm) (ov pv hv:Value) (r:Nat->Nat):Prop:=(∀g,ov.ownBlock=some g->g<D)/\(∀g,pv.ownBlock=some g->g<D)/\(∀g,hv.ownBlock=some g->g<D)/\∀i,i<f.nh->r i<D
theorem FmG.lt {B:Nat}{w:World}{f:Fm}{ov pv hv:Value}{r rc:Nat->Nat}(h:FmG B w f ov pv hv r rc):FmLt w.heap.size f ov pv hv r:=⟨fun _ e=>(h.o.lt e).2,fun _ e=>(h.p.lt e).2,fun _ e=>(h.h.own.lt e).2,fun i hi=>((h.h.row i hi).lt (g:=r i) rfl).2⟩
theorem FmG.fr {B:Nat}{w w':World}{f:Fm}{ov pv hv:Value}{r rc:Nat->Nat}{X:Nat->Prop}(h:FmG B w f ov pv hv r rc) (hf:Fr X w w') (hX:∀b,B<=b->¬X b):FmG B w' f ov pv hv r rc:=
 ⟨h.o.fr hf fun g e=>hX g (h.o.lt e).1,h.p.fr hf fun g e=>hX g (h.p.lt e).1,⟨h.h.own.fr hf fun g e=>hX g (h.h.own.lt e).1,fun i hi=>(h.h.row i hi).fr hf fun g e=>hX g ((h.h.row i hi).lt e).1,h.h.inj⟩,h.ne⟩
theorem FmG.frb {B q:Nat}{w w':World}{f:Fm}{ov pv hv:Value}{r rc:Nat->Nat}{T:TypeId}{ys:Array Value}(h:FmG B w f ov pv hv r rc) (hq:Box w q T ys) (hf:Fr (fun x=>x=q) w w') (h1:T≠72:=by decide) (h2:T≠4:=by decide) (h3:T≠69:=by decide):FmG B w' f ov pv hv r rc:=⟨owf h.o hq hf h2,owf h.p hq hf h3,h.h.frb hq hf h1 h2,h.ne⟩
theorem FmG.mono {B M:Nat}{w w':World}{f:Fm}{ov pv hv:Value}{r rc:Nat->Nat}(h:FmG B w f ov pv hv r rc) (hb:Below M w w') (hM:w.heap.size<=M):FmG B w' f ov pv hv r rc:=⟨h.o.mono nr hb hM,h.p.mono nr hb hM,h.h.mono hb hM,h.ne⟩
theorem FmOwn.g {B:Nat}{w:World}{f:Fm}{ov pv hv:Value}{r:Nat->Nat}(h:FmOwn B w f ov pv hv r):FmG B w f ov pv hv r (fun i=>(f.Y i).nb):=⟨h.o,h.p,⟨h.h.own,fun i hi=>(h.h.row i hi).1.keep (h.h.row i hi).2 fun _ _=>rfl,h.h.inj⟩,h.ne⟩
theorem FmG.in {B:Nat}{w:World}{f:Fm}{oa pa ha:Option Addr}{oc pc hc:Nat}{r rc:Nat->Nat}(h:FmG B w f (.slice oa f.no oc) (.slice pa f.np pc) (.slice ha f.nh hc) r rc):FmIn 0 w f oa pa ha:=⟨h.o.vs.le (Nat.zero_le _),h.p.vs.le (Nat.zero_le _),h.h.hs⟩
def mkF (f:Fm) (k:Nat):Fm:=⟨f.ok,f.no,fun j=>trM ((k+j:Nat):Int),f.np,ptM (k+f.no),f.nh,mkY f.Y (k+f.no+2*f.np)⟩
def kEnd (f:Fm) (k:Nat):Nat:=kAt f.Y (k+f.no+2*f.np) f.nh
set_option maxRecDepth 100000 in
set_option maxHeartbeats 4000000 in
theorem markF19 (B D:Nat) (f:Fm) (oa pa ha:Option Addr) (oc pc hc:Nat) (r rc:Nat->Nat) (k0:Nat) (w:World) (hk0:k0<=60000000000000) (hs:f.small) (hD:FmLt D f (.slice oa f.no oc) (.slice pa f.np pc) (.slice ha f.nh hc) r) (h:FmG B w f (.slice oa f.no oc) (.slice pa f.np pc) (.slice ha f.nh hc) r rc):
  Calls Tryz.prog 19 #[.agg #[.bool f.ok,.slice oa f.no oc,.slice pa f.np pc,.slice ha f.nh hc],.int .i64 (k0:Int)] w fun e w'=>e=.returned (.int .i64 ((kEnd f k0:Nat):Int))/\FmG B w' (mkF f k0) (.slice oa f.no oc) (.slice pa f.np pc) (.slice ha f.nh hc) r rc/\Fr (fun b=>B<=b/\b<D) w w'/\(∀b T cur,Box w b T cur->T≠4->T≠69->T≠72->Box w' b T cur):=by
 obtain⟨s1,s2,s3,s4⟩:=hs
 have HS:Hid (∀i,i<f.nh->(f.Y i).nb<=1048576):=s4
 have M0:Hid (∃w0,w0=w.alloc (.cells (vFr f oa oc pa pc ha hc) 42)/\Box w0 w.heap.size 42 (vFr f oa oc pa pc ha hc)/\FmG B w0 f (.slice oa f.no oc) (.slice pa f.np pc) (.slice ha f.nh hc) r rc/\Fr (fun b=>B<=b/\b<D) w w0/\(∀b T cur,Box w b T cur->T≠4->T≠69->T≠72->Box w0 b T cur)):=⟨_,rfl,Box.new w 42 _,h.mono (bel1 _ _) nr,Fr.of_below (bel1 _ _),fun b T cur hb _ _ _=>hb.alloc _⟩
 have HD:Hid (FmLt D f (.slice oa f.no oc) (.slice pa f.np pc) (.slice ha f.nh hc) r):=hD
 clear h s4 hD
 go_enter Tryz.func19,Tryz.ntmps19
 go_wp2_with fail
 obtain⟨w0,hw0,k1,k2,k3,kt⟩:=M0.out
 rw[<-hw0]
 clear hw0 M0
 refine(mark44 B oa f.no oc f.O k0 w0 s1 (by omega) k2.o).mono ?_
 rintro e w1 ⟨rfl,hv1,hf1⟩
 have M1:Hid (Box w1 w.heap.size 42 (vFr f oa oc pa pc ha hc)/\VOwn B 4 1 w1 (.slice oa f.no oc) f.no (boolF fun j=>trM ((k0+j:Nat):Int))/\VOwn B 69 2 w1 (.slice pa f.np pc) f.np (intF f.P)/\HsG B w1 (.slice ha f.nh hc) f.nh f.Y r rc/\(∀g,(Value.slice oa f.no oc).ownBlock=some g->∀i,i<f.nh->r i≠g)/\Fr (fun b=>B<=b/\b<D) w w1/\(∀b T cur,Box w b T cur->T≠4->T≠69->T≠72->Box w1 b T cur)):=by
  have nb:∀ {q T cur},Box w0 q T cur->T≠4->¬(Value.slice oa f.no oc).ownBlock=some q:=fun hb hT e=>k2.o.off hb hT e rfl
  refine⟨k1.fr hf1 (nb k1 (by decide)),hv1,k2.p.by_ fun b cur hb=>hf1.block b hb.lt (nb hb (by decide)),⟨k2.h.own.by_ fun b cur hb=>hf1.block b hb.lt (nb hb (by decide)),fun i hi=>(k2.h.row i hi).fr hf1 fun g e e'=>?_,k2.h.inj⟩,k2.ne,k3.trans (hf1.mono fun b _ e=>⟨(k2.o.lt e).1,HD.out.1 b e⟩),fun b T cur hb h1 h2 h3=>(kt b T cur hb h1 h2 h3).fr hf1 (nb (kt b T cur hb h1 h2 h3) h1)⟩
  have :=own_block e
  exact k2.ne g e' i hi (by omega)
 have a2:=M1.out.1.cel 2
 obtain⟨x1,hx1⟩:∃x,Hid (k0+f.no=x):=⟨_,rfl⟩
 have hb1:x1<=60000001048576:=by have :=hx1.out;omega
 rw[hx1.out]
 clear k1 k2 k3 kt hv1 hf1
 go_wp2_with fail
 clear a2
 obtain⟨k1,k2,k3,k4,k5,k6,kt⟩:=M1.out
 clear M1
 refine(mark45 B pa f.np pc f.P x1 w1 s2 (by omega) k3).mono ?_
 rintro e w2 ⟨rfl,hv1,hf1⟩
 have M2:Hid (Box w2 w.heap.size 42 (vFr f oa oc pa pc ha hc)/\VOwn B 4 1 w2 (.slice oa f.no oc) f.no (boolF fun j=>trM ((k0+j:Nat):Int))/\VOwn B 69 2 w2 (.slice pa f.np pc) f.np (intF (ptM x1))/\HsG B w2 (.slice ha f.nh hc) f.nh f.Y r rc/\(∀g,(Value.slice oa f.no oc).ownBlock=some g->∀i,i<f.nh->r i≠g)/\Fr (fun b=>B<=b/\b<D) w w2/\(∀b T cur,Box w b T cur->T≠4->T≠69->T≠72->Box w2 b T cur)):=by
  have nb:∀ {q T cur},Box w1 q T cur->T≠69->¬(Value.slice pa f.np pc).ownBlock=some q:=fun hb hT e=>k3.off hb hT e rfl
  exact⟨k1.fr hf1 (nb k1 (by decide)),k2.by_ fun b cur hb=>hf1.block b hb.lt (nb hb (by decide)),hv1,k4.by_ fun b T cur hb hT=>hf1.block b hb.lt (nb hb (by rcases hT with rfl|rfl<;>decide)),k5,k6.trans (hf1.mono fun b _ e=>⟨(k3.lt e).1,HD.out.2.1 b e⟩),fun b T cur hb h1 h2 h3=>(kt b T cur hb h1 h2 h3).fr hf1 (nb (kt b T cur hb h1 h2 h3) h2)⟩
 have a3:=M2.out.1.cel 3
 obtain⟨x2,hx2⟩:∃x,Hid (x1+2*f.np=x):=⟨_,rfl⟩
 have hb2:x2<=60000003145728:=by have :=hx2.out;omega
 rw[hx2.out]
 clear k1 k2 k3 k4 k5 k6 kt hv1 hf1
 go_wp2_with fail
 clear a3
 obtain⟨k1,k2,k3,k4,k5,k6,kt⟩:=M2.out
 clear M2
 refine(mark46 B ha f.nh hc f.Y r rc x2 w2 s3 (by omega) HS.out k4).mono ?_
 rintro e w3 ⟨rfl,hv1,hf1⟩
 have M3:Hid (FmG B w3 (mkF f k0) (.slice oa f.no oc) (.slice pa f.np pc) (.slice ha f.nh hc) r rc/\Fr (fun b=>B<=b/\b<D) w w3/\(∀b T cur,Box w b T cur->T≠4->T≠69->T≠72->Box w3 b T cur)):=by
  have nb:∀ {q T cur},Box w2 q T cur->T≠72->T≠4->¬((Value.slice ha f.nh hc).ownBlock=some q\/∃i,i<f.nh/\q=r i):=fun hb hT hT4 e=>by
   rcases e with e|⟨i,hi,rfl⟩
   ·
    exact k4.own.off hb hT e rfl
   ·
    obtain⟨c4,hc4⟩:=(k4.row i hi).box (g:=r i) rfl
    exact hb.ne hc4 hT4 rfl
  have e1:mkF f k0=⟨f.ok,f.no,fun j=>trM ((k0+j:Nat):Int),f.np,ptM x1,f.nh,mkY f.Y x2⟩:=by rw[mkF,hx1.out,hx2.out]
  rw[e1]
  refine⟨⟨k2.fr hf1 fun g e e'=>?_,k3.by_ fun b cur hb=>hf1.block b hb.lt (nb hb (by decide) (by decide)),hv1,k5⟩,k6.trans (hf1.mono fun b _ e=>?_),fun b T cur hb h1 h2 h3=>(kt b T cur hb h1 h2 h3).fr hf1 (nb (kt b T cur hb h1 h2 h3) h3 h1)⟩
  ·
   rcases e' with e'|⟨i,hi,rfl⟩
   ·
    obtain⟨c4,hc4⟩:=k2.box e
    exact k4.own.off hc4 (by decide) e' rfl
   ·
    exact k5 (r i) e i hi rfl
  ·
   rcases e with e|⟨i,hi,rfl⟩
   ·
    exact⟨(k4.own.lt e).1,HD.out.2.2.1 _ e⟩
   ·
    exact⟨((k4.row i hi).lt (g:=r i) rfl).1,HD.out.2.2.2 i hi⟩
 have HK:Hid (kAt f.Y x2 f.nh=kEnd f k0):=by rw[Hid,kEnd,hx1.out,hx2.out]
 rw[HK.out]
 clear k1 k2 k3 k4 k5 k6 kt hv1 hf1
 go_wp2_with fail
 go_ret
 exact⟨rfl,M3.out⟩
set_option maxRecDepth 100000 in
set_option maxHeartbeats 4000000 in
theorem mark20 (B D:Nat) (c:Int) (f:Fm) (oa pa ha:Option Addr) (oc pc hc:Nat) (r rc:Nat->Nat) (w:World) (hs:f.small) (hD:FmLt D f (.slice oa f.no oc) (.slice pa f.np pc) (.slice ha f.nh hc) r) (h:FmG B w f (.slice oa f.no oc) (.slice pa f.np pc) (.slice ha f.nh hc) r rc):
  Calls Tryz.prog 20 #[.agg #[.int .i64 c,.bool f.ok,.slice oa f.no oc,.slice pa f.np pc,.slice ha f.nh hc],.int .i64 1] w fun e w'=>e=.returned (.int .i64 ((kEnd f 1:Nat):Int))/\FmG B w' (mkF f 1) (.slice oa f.no oc) (.slice pa f.np pc) (.slice ha f.nh hc) r rc/\Fr (fun b=>B<=b/\b<D) w w'/\(∀b T cur,Box w b T cur->T≠4->T≠69->T≠72->Box w' b T cur):=by
 have H:Hid (FmG B w f (.slice oa f.no oc) (.slice pa f.np pc) (.slice ha f.nh hc) r rc/\f.small/\FmLt D f (.slice oa f.no oc) (.slice pa f.np pc) (.slice ha f.nh hc) r):=⟨h,hs,hD⟩
 obtain⟨V,hV,S⟩:=st1 w 50 (vAn c f oa oc pa pc ha hc)
 clear h hs hD
 go_enter Tryz.func20,Tryz.ntmps20
 go_upto_region 1 with fail
 clear hV
 have a1:=(gB S.out.1).cel 1
 have a2:=(gB S.out.1).cel 2
 have a3:=(gB S.out.1).cel 3
 have a4:=(gB S.out.1).cel 4
 go_wp2_with fail
 clear a1 a2 a3 a4
 refine(markF19 B D f oa pa ha oc pc hc r rc 1 V (by omega) H.out.2.1 H.out.2.2 (H.out.1.mono (gL S.out.2.1) nr)).mono ?_
 rintro e w' ⟨rfl,h1,h2,h3⟩
 have HE:Hid (FmG B w' (mkF f 1) (.slice oa f.no oc) (.slice pa f.np pc) (.slice ha f.nh hc) r rc/\Fr (fun b=>B<=b/\b<D) w w'/\(∀b T cur,Box w b T cur->T≠4->T≠69->T≠72->Box w' b T cur)):=⟨h1,(Fr.of_below (gL S.out.2.1)).trans h2,fun b T cur hb=>h3 b T cur (hb.mono (gL S.out.2.1) nr)⟩
 clear h1 h2 h3
 go_wp2_with fail
 go_ret
 exact⟨rfl,HE.out⟩

set_option maxHeartbeats 2000000 in
theorem held95 (a:Option Addr) (n c:Nat) (k:Nat) (w:World) (hn:n<=1048576) (hk:k<=100000000000000) (hQ:VsAt 1 0 w a n (boolF fun j=>trM ((k+j:Nat):Int))):
  Calls Tryz.prog 95 #[.slice a n c,.int .i64 (k:Int)] w fun e w'=>e=.returned (.int .i64 ((k+n:Nat):Int))/\w'=w:=by
 have HQ:Hid (VsAt 1 0 w a n (boolF fun j=>trM ((k+j:Nat):Int))):=hQ
 clear hQ
 go_enter Tryz.func95,Tryz.ntmps95
 go_wp2_with fail
 go_loop [1,5] (fun l i=>∃q:Nat,q<=n/\i=.int .i64 (q:Int)/\l=.int .i64 ((k+q:Nat):Int)) (fun _ i=>n-(intOf i).toNat)
 case atStart=>exact⟨0,Nat.zero_le _,rfl,rfl⟩
 case round=>
  obtain⟨q,hq,rfl,rfl⟩:=hrel
  by_cases hlt:q<n
  ·
   obtain⟨b,off,hr,_,hb,hc⟩:=HQ.out (by omega)
   subst hr
   have hq0:(0:Int)<=(q:Int):=by omega
   have hqn:(q:Int)<(n:Int):=by omega
   have d0:w.cell? (ad b (off+q))=some (.bool (((k+q:Nat):Int).tmod 3==0)):=by have :=hc q hlt 0 (by omega);rwa [Nat.mul_one] at this
   clear hc
   go_wp2_with fail
   go_round
   case rel=>exact⟨q+1,by omega,by go_num,by go_num⟩
   case measure=>simp[intOf];omega
  ·
   have hge:¬((q:Int)<(n:Int)):=by omega
   have hqn:q=n:=by omega
   go_wp2_with fail
   go_ret
   exact⟨by first |rfl|(rw[hqn];rfl),rfl⟩
set_option maxHeartbeats 2000000 in
theorem held96 (a:Option Addr) (n c:Nat) (k:Nat) (w:World) (hn:n<=1048576) (hk:k<=100000000) (hQ:VsAt 2 0 w a n (intF (ptM k))):
  Calls Tryz.prog 96 #[.slice a n c,.int .i64 (k:Int)] w fun e w'=>e=.returned (.int .i64 ((k+2*n:Nat):Int))/\w'=w:=by
 have HQ:Hid (VsAt 2 0 w a n (intF (ptM k))):=hQ
 clear hQ
 go_enter Tryz.func96,Tryz.ntmps96
 go_wp2_with fail
 go_loop [1,5] (fun l i=>∃q:Nat,q<=n/\i=.int .i64 (q:Int)/\l=.int .i64 ((k+2*q:Nat):Int)) (fun _ i=>n-(intOf i).toNat)
 case atStart=>exact⟨0,Nat.zero_le _,rfl,rfl⟩
 case round=>
  obtain⟨q,hq,rfl,rfl⟩:=hrel
  by_cases hlt:q<n
  ·
   obtain⟨b,off,hr,_,hb,hc⟩:=HQ.out (by omega)
   subst hr
   have hq0:(0:Int)<=(q:Int):=by omega
   have hqn:(q:Int)<(n:Int):=by omega
   have d0:w.cell? (ad b (off+q*2))=some (.int .i64 ((k+2*q:Nat):Int)):=hc q hlt 0 (by omega)
   have d1:w.cell? (ad b (off+q*2+1))=some (.int .i64 ((k+2*q+1:Nat):Int)):=hc q hlt 1 (by omega)
   clear hc
   go_wp2_with fail
   go_round
   case rel=>exact⟨q+1,by omega,by go_num,by go_num⟩
   case measure=>simp[intOf];omega
  ·
   have hge:¬((q:Int)<(n:Int)):=by omega
   have hqn:q=n:=by omega
   go_wp2_with fail
   go_ret
   exact⟨by first |rfl|(rw[hqn];rfl),rfl⟩
set_option maxRecDepth 100000 in
set_option maxHeartbeats 4000000 in
theorem held97 (a:Option Addr) (n c:Nat) (Y:Nat->Hl) (k:Nat) (w:World) (hn:n<=1048576) (hk:k<=100000000) (hL:∀i,i<n->(Y i).nb<=1048576) (hQ:HsAt 0 w a n (mkY Y k)):
  Calls Tryz.prog 97 #[.slice a n c,.int .i64 (k:Int)] w fun e w'=>e=.returned (.int .i64 ((kAt Y k n:Nat):Int))/\w'=w:=by
 have HQ:Hid (HsAt 0 w a n (mkY Y k)):=hQ
 have HL:Hid (∀i,i<n->(Y i).nb<=1048576):=hL
 clear hQ hL
 go_enter Tryz.func97,Tryz.ntmps97
 go_wp2_with fail
 go_loop [1,5] (fun l i=>∃q:Nat,q<=n/\i=.int .i64 (q:Int)/\l=.int .i64 ((kAt Y k q:Nat):Int)) (fun _ i=>n-(intOf i).toNat)
 case atStart=>exact⟨0,Nat.zero_le _,rfl,rfl⟩
 case round=>
  obtain⟨q,hq,rfl,rfl⟩:=hrel
  by_cases hlt:q<n
  ·
   obtain⟨b,off,hr,_,hb,hc⟩:=HQ.out (by omega)
   subst hr
   obtain⟨ra,rc,x0,x1,x2,x3,x4,hv⟩:=hc q hlt
   have hq0:(0:Int)<=(q:Int):=by omega
   have hqn:(q:Int)<(n:Int):=by omega
   have hkq:=kAt_le Y k HL.out q (by omega)
   have hnb:=HL.out q hlt
   obtain⟨x,hx⟩:∃x,Hid (kAt Y k q=x):=⟨_,rfl⟩
   obtain⟨m,hm⟩:∃m,Hid ((Y q).nb=m):=⟨_,rfl⟩
   simp only[mkY,mkH,hx.out,hm.out] at x0 x1 x2 x3 x4 hv
   rw[hx.out] at hkq
   rw[hm.out] at hnb
   rw[hx.out]
   have x3':w.cell? (ad b (off+q*5+3))=some (.bool (((x+2+m:Nat):Int).tmod 3==0)):=x3
   have HV:Hid (VsAt 1 0 w ra m (boolF fun j=>trM ((x+2+j:Nat):Int))):=hv
   have HX:Hid (kAt Y k (q+1)=x+2+m+1+1):=by show kAt Y k q+2+(Y q).nb+1+1=_;rw[hx.out,hm.out]
   have HC:Hid (Calls Tryz.prog 95 #[.slice ra m rc,.int .i64 ((x+2:Nat):Int)] w fun e w'=>e=.returned (.int .i64 ((x+2+m:Nat):Int))/\w'=w):=held95 ra m rc (x+2) w hnb (by omega) HV.out
   have hm0:¬(((x+2+m:Nat):Int)<0):=by omega
   clear hc hv x3
   go_wp2_with fail
   refine HC.out.mono ?_
   rintro e w1 ⟨rfl,hw⟩
   have hw:=hw.symm
   subst hw
   go_wp2_with fail
   go_round
   case rel=>exact⟨q+1,by omega,by go_num,by rw[HX.out];go_num⟩
   case measure=>simp[intOf];omega
  ·
   have hge:¬((q:Int)<(n:Int)):=by omega
   have hqn:q=n:=by omega
   have HK:Hid (kAt Y k q=kAt Y k n):=congrArg (kAt Y k) hqn
   go_wp2_with fail
   go_ret
   exact⟨by first |rfl|(rw[←HK.out];rfl),rfl⟩
set_option maxRecDepth 100000 in
set_option maxHeartbeats 4000000 in
theorem held65 (f:Fm) (oa pa ha:Option Addr) (oc pc hc:Nat) (w:World) (hs:f.small) (h:FmIn 0 w (mkF f 1) oa pa ha):
  Calls Tryz.prog 65 #[.agg #[.bool f.ok,.slice oa f.no oc,.slice pa f.np pc,.slice ha f.nh hc],.int .i64 1] w fun e w'=>e=.returned (.int .i64 ((kEnd f 1:Nat):Int))/\Below w.heap.size w w':=by
 obtain⟨s1,s2,s3,s4⟩:=hs
 have HS:Hid (∀i,i<f.nh->(f.Y i).nb<=1048576):=s4
 have H:Hid (FmIn 0 w (mkF f 1) oa pa ha):=h
 obtain⟨V,hV,S⟩:=st1 w 42 (vFr f oa oc pa pc ha hc)
 clear h s4
 go_enter Tryz.func65,Tryz.ntmps65
 go_upto_region 1 with fail
 clear hV
 have a1:=(gB S.out.1).cel 1
 have a2:=(gB S.out.1).cel 2
 have a3:=(gB S.out.1).cel 3
 go_wp2_with fail
 refine(held95 oa f.no oc 1 V s1 (by omega) (H.out.mono nr (gL S.out.2.1) nr).o).mono ?_
 rintro e w1 ⟨rfl,hw⟩
 have hw:=hw.symm
 subst hw
 obtain⟨x1,hx1⟩:∃x,Hid (1+f.no=x):=⟨_,rfl⟩
 have hb1:x1<=1048577:=by have :=hx1.out;omega
 rw[hx1.out]
 have hn1:¬((x1:Int)<0):=by omega
 go_wp2_with fail
 refine(held96 pa f.np pc x1 V s2 (by omega) (by have h9:=(H.out.mono nr (gL S.out.2.1) nr).p;rw[←hx1.out];exact h9)).mono ?_
 rintro e w2 ⟨rfl,hw⟩
 have hw:=hw.symm
 subst hw
 obtain⟨x2,hx2⟩:∃x,Hid (x1+2*f.np=x):=⟨_,rfl⟩
 have hb2:x2<=3145729:=by have :=hx2.out;omega
 rw[hx2.out]
 have hn2:¬((x2:Int)<0):=by omega
 clear hn1
 go_wp2_with fail
 refine(held97 ha f.nh hc f.Y x2 V s3 (by omega) HS.out (by have h9:=(H.out.mono nr (gL S.out.2.1) nr).h;rw[←hx2.out,←hx1.out];exact h9)).mono ?_
 rintro e w3 ⟨rfl,hw⟩
 have hw:=hw.symm
 subst hw
 have HK:Hid (kAt f.Y x2 f.nh=kEnd f 1):=by rw[Hid,kEnd,hx1.out,hx2.out]
 rw[HK.out]
 have hn3:¬(((kEnd f 1:Nat):Int)<0):=by omega
 clear hn2 a1 a2 a3
 go_wp2_with fail
 go_ret
 exact⟨rfl,gL S.out.2.1⟩
set_option maxRecDepth 100000 in
set_option maxHeartbeats 4000000 in
theorem held21 (c:Int) (f:Fm) (oa pa ha:Option Addr) (oc pc hc:Nat) (w:World) (hs:f.small) (h:FmIn 0 w (mkF f 1) oa pa ha):
  Calls Tryz.prog 21 #[.agg #[.int .i64 c,.bool f.ok,.slice oa f.no oc,.slice pa f.np pc,.slice ha f.nh hc],.int .i64 1] w fun e w'=>e=.returned (.int .i64 ((kEnd f 1:Nat):Int))/\Below w.heap.size w w':=by
 have H:Hid (FmIn 0 w (mkF f 1) oa pa ha/\f.small):=⟨h,hs⟩
 obtain⟨V,hV,S⟩:=st1 w 50 (vAn c f oa oc pa pc ha hc)
 clear h hs
 go_enter Tryz.func21,Tryz.ntmps21
 go_upto_region 1 with fail
 clear hV
 have a1:=(gB S.out.1).cel 1
 have a2:=(gB S.out.1).cel 2
 have a3:=(gB S.out.1).cel 3
 have a4:=(gB S.out.1).cel 4
 go_wp2_with fail
 clear a1 a2 a3 a4
 refine(held65 f oa pa ha oc pc hc V H.out.2 (H.out.1.mono nr (gL S.out.2.1) nr)).mono ?_
 rintro e w1 ⟨rfl,hb⟩
 have M:=stm S hb
 clear hb S
 have hn3:¬(((kEnd f 1:Nat):Int)<0):=by omega
 go_wp2_with fail
 go_ret
 exact⟨rfl,gL M.out.2.1⟩
set_option maxRecDepth 100000 in
set_option maxHeartbeats 4000000 in
theorem eqDone17 (c:Int) (f:Fm) (oa pa ha oa' pa' ha':Option Addr) (oc pc hc oc' pc' hc':Nat) (w:World) (hs:f.small) (h:FmIn 0 w f oa pa ha) (h':FmIn 0 w f oa' pa' ha'):
  Calls Tryz.prog 17 #[.agg #[.int .i64 c,.bool f.ok,.slice oa f.no oc,.slice pa f.np pc,.slice ha f.nh hc],.agg #[.int .i64 c,.bool f.ok,.slice oa' f.no oc',.slice pa' f.np pc',.slice ha' f.nh hc']] w fun e w'=>e=.returned (.bool true)/\Below w.heap.size w w':=by
 have H:Hid (FmIn 0 w f oa pa ha/\FmIn 0 w f oa' pa' ha'/\f.small):=⟨h,h',hs⟩
 obtain⟨V,hV,S⟩:=st2 w 50 (vAn c f oa oc pa pc ha hc) 50 (vAn c f oa' oc' pa' pc' ha' hc')
 clear h h' hs
 go_enter Tryz.func17,Tryz.ntmps17
 go_upto_region 1 with fail
 clear hV
 have z:(c !=c)=false:=by simp
 obtain⟨a0,a1,a2,a3,a4⟩:=(gB S.out.2.1).c5
 obtain⟨b0,b1,b2,b3,b4⟩:=(gB S.out.1).c5
 go_wp2_with fail
 clear a0 a1 a2 a3 a4 b0 b1 b2 b3 b4
 refine(eqFrame f oa pa ha oa' pa' ha' oc pc hc oc' pc' hc' V H.out.2.2 (H.out.1.mono nr (gL S.out.2.2.1) nr) (H.out.2.1.mono nr (gL S.out.2.2.1) nr)).mono ?_
 rintro e w1 ⟨rfl,hb⟩
 have M:=stm S hb
 clear hb S
 go_wp2_with fail
 go_ret
 exact⟨rfl,gL M.out.2.2.1⟩
def kPl (p:Pl) (wb yb bb:Nat) (lo rr:Nat->Nat):Kp:=⟨fun W=>PlOwn 0 W p wb yb bb lo rr,fun h hb=>h.mono nr hb nr⟩
def kFo (f:Fm) (ov pv hv:Value) (r:Nat->Nat):Kp:=⟨fun W=>FmOwn 0 W f ov pv hv r,fun h hb=>h.mono nr hb nr⟩
def kFg (B:Nat) (f:Fm) (ov pv hv:Value) (r rc:Nat->Nat):Kp:=⟨fun W=>FmG B W f ov pv hv r rc,fun h hb=>h.mono hb nr⟩
def OffQ (C:Nat) (W0:World) (q:Nat):Prop:=q<C\/W0.heap.size<=q
def kWd (C:Nat) (W0:World):Kp:=⟨fun W=>W0.heap.size<=W.heap.size/\∀b,C<=b->b<W0.heap.size->W.heap[b]?=W0.heap[b]?,fun h hb=>⟨Nat.le_trans h.1 hb.size,fun b h1 h2=>(hb.block b (Nat.lt_of_lt_of_le h2 h.1)).trans (h.2 b h1 h2)⟩⟩
theorem gPl {p:Pl}{wb yb bb:Nat}{lo rr:Nat->Nat}{W:World}(h:(kPl p wb yb bb lo rr).p W):PlOwn 0 W p wb yb bb lo rr:=h
theorem gFo {f:Fm}{ov pv hv:Value}{r:Nat->Nat}{W:World}(h:(kFo f ov pv hv r).p W):FmOwn 0 W f ov pv hv r:=h
theorem gFg {B:Nat}{f:Fm}{ov pv hv:Value}{r rc:Nat->Nat}{W:World}(h:(kFg B f ov pv hv r rc).p W):FmG B W f ov pv hv r rc:=h
theorem gWd {C:Nat}{W0 W:World}(h:(kWd C W0).p W):(kWd C W0).p W:=h
theorem kWd.put {C q:Nat}{W0 W W':World}(h:(kWd C W0).p W) (hq:OffQ C W0 q) (hF:Fr (fun x=>x=q) W W'):(kWd C W0).p W':=⟨Nat.le_trans h.1 hF.size,fun b h1 h2=>(hF.block b (Nat.lt_of_lt_of_le h2 h.1) fun(e:b=q)=>by rcases hq with k|k<;>omega).trans (h.2 b h1 h2)⟩
theorem FmIn.wd {C:Nat}{W0 W:World}{f:Fm}{oa pa ha:Option Addr}(h:FmIn C W0 f oa pa ha) (k:(kWd C W0).p W):FmIn 0 W f oa pa ha:=⟨h.o.keep (Nat.zero_le _) k.1 k.2,h.p.keep (Nat.zero_le _) k.1 k.2,h.h.keep (Nat.zero_le _) k.1 k.2⟩
theorem FmG.low {B C:Nat}{w:World}{f:Fm}{ov pv hv:Value}{r rc:Nat->Nat}(h:FmG B w f ov pv hv r rc) (hC:C<=B):FmG C w f ov pv hv r rc:=⟨h.o.keep hC fun _ _=>rfl,h.p.keep hC fun _ _=>rfl,h.h.low hC,h.ne⟩
def DgR (w:World) (c:Int) (f:Fm) (e:Ending) (w':World):Prop:=∃(oa pa ha:Option Addr) (oc pc hc:Nat) (r rc:Nat->Nat),e=.returned (.agg #[.int .i64 c,.bool f.ok,.slice oa f.no oc,.slice pa f.np pc,.slice ha f.nh hc])/\FmG w.heap.size w' f (.slice oa f.no oc) (.slice pa f.np pc) (.slice ha f.nh hc) r rc/\Below w.heap.size w w'
theorem DfR.g {w w':World}{c:Int}{f:Fm}{e:Ending}(h:DfR w c f e w'):DgR w c f e w':=by
 obtain⟨ov,pv,hv,r,rc,he,ho,hp,hh,hne,hb⟩:=h
 obtain⟨va1,vc1,rfl⟩:=ho.val
 obtain⟨va2,vc2,rfl⟩:=hp.val
 obtain⟨va3,vc3,rfl⟩:=hh.own.val
 exact⟨va1,va2,va3,vc1,vc2,vc3,r,rc,he,⟨ho,hp,hh,hne⟩,hb⟩
def SpecT (p:Pl) (f:Fm) (c:Int) (X:Fm) (op o lie:Int):Prop:=∀(W:World) (wb yb bb:Nat) (lo rr:Nat->Nat) (ob pb hb:Nat) (r:Nat->Nat),PlOwn 0 W p wb yb bb lo rr->FmOwn 0 W f (.slice (some (ad ob 0)) f.no f.no) (.slice (some (ad pb 0)) f.np f.np) (.slice (some (ad hb 0)) f.nh f.nh) r->Calls Tryz.prog 14 #[.agg #[.int .i64 p.sec,.slice (some (ad wb 0)) p.nw p.nw,.slice (some (ad yb 0)) p.ny p.ny,.slice (some (ad bb 0)) p.nb p.nb,.int .i64 p.hold],.agg #[.bool f.ok,.slice (some (ad ob 0)) f.no f.no,.slice (some (ad pb 0)) f.np f.np,.slice (some (ad hb 0)) f.nh f.nh],.agg #[.int .i64 op,.int .i64 o,.int .i64 lie]] W fun e w'=>SpD W c X e w'
def ImplT (p:Pl) (f:Fm) (c:Int) (X:Fm) (op o lie:Int) (A:Nat->Addr):Prop:=∀(W:World) (wb yb bb:Nat) (lo rr:Nat->Nat) (ob pb hb:Nat) (r:Nat->Nat),PlOwn 0 W p wb yb bb lo rr->FmOwn 0 W f (.slice (some (ad ob 0)) f.no f.no) (.slice (some (ad pb 0)) f.np f.np) (.slice (some (ad hb 0)) f.nh f.nh) r->Sn W 7 A->Calls Tryz.prog 16 #[.agg #[.int .i64 p.sec,.slice (some (ad wb 0)) p.nw p.nw,.slice (some (ad yb 0)) p.ny p.ny,.slice (some (ad bb 0)) p.nb p.nb,.int .i64 p.hold],.agg #[.bool f.ok,.slice (some (ad ob 0)) f.no f.no,.slice (some (ad pb 0)) f.np f.np,.slice (some (ad hb 0)) f.nh f.nh],.agg #[.int .i64 op,.int .i64 o,.int .i64 lie]] W fun e w'=>DgR W c X e w'
theorem both_do (p:Pl) (f:Fm) (op o lie:Int) (A:Nat->Addr) (hp:p.small) (hf:f.small):∃(X:Fm) (c:Int),Hid X.small/\Hid (SpecT p f c X op o lie)/\Hid (ImplT p f c X op o lie A):=
 ⟨dfF p f op o lie,dfC p f op o lie,df_small hp hf op o lie,fun W wb yb bb _ _ ob pb hb _ h1 h2=>(spec14 p f (some (ad wb 0)) (some (ad yb 0)) (some (ad bb 0)) p.nw p.ny p.nb ob 0 pb 0 (some (ad hb 0)) f.no f.np f.nh op o lie W hp hf (h1.in nr) (h2.in nr)).mono fun _ _ h=>h.df,fun W wb yb bb lo rr ob pb hb r h1 h2 h3=>(do16 p f wb yb bb lo rr ob pb hb r A op o lie W hp hf h1 h2 h3).mono fun _ _ h=>h.g⟩
end Go.Proofs.YtkeilejbelblcaaGreatDoor
