import Derived.Test.YtkeilejbelblcaaGreatDoorJax
namespace Go.Proofs.YtkeilejbelblcaaGreatDoor
open Go.RowKit
structure Mk (w w':World):Prop where
 shape:∀b T cur,Box w b T cur->∃cur',Box w' b T cur'/\cur'.size=cur.size/\(T=3\/T=146\/T=4\/cur'=cur)
theorem Mk.refl (w:World):Mk w w:=⟨fun _b _T cur h=>⟨cur,h,rfl,.inr (.inr (.inr rfl))⟩⟩
theorem Mk.trans {a b c:World}(h:Mk a b) (k:Mk b c):Mk a c:=⟨fun x T cur hx=>by
 obtain⟨c1,h1,h2,h3⟩:=h.shape x T cur hx
 obtain⟨c2,k1,k2,k3⟩:=k.shape x T c1 h1
 refine⟨c2,k1,by omega,?_⟩
 rcases k3 with k3|k3|k3|k3
 ·
  exact .inl k3
 ·
  exact .inr (.inl k3)
 ·
  exact .inr (.inr (.inl k3))
 ·
  rcases h3 with h3|h3|h3|h3
  ·
   exact .inl h3
  ·
   exact .inr (.inl h3)
  ·
   exact .inr (.inr (.inl h3))
  ·
   exact .inr (.inr (.inr (by rw[k3,h3])))⟩
theorem Mk.of_below {w w':World}(h:Below w.heap.size w w'):Mk w w':=⟨fun _b _T cur hb=>⟨cur,hb.mono h nr,rfl,.inr (.inr (.inr rfl))⟩⟩
theorem Mk.set {w w':World}(h:Mk w w') {g:Nat}{T:TypeId}{cu:Array Value}(hg:Box w' g T cu) (hT:T=3\/T=146\/T=4) (j:Nat) (v:Value):Mk w (w'.setCell (ad g j) v):=h.trans ⟨fun b T' cur hb=>by
 by_cases e:b=g
 ·
  subst e
  refine⟨_,hb.set j v,by simp,?_⟩
  have a1:w'.heap[b]?=some (.cells cu T (0,0)):=hg
  have a2:w'.heap[b]?=some (.cells cur T' (0,0)):=hb
  rw[a1] at a2
  simp only[Option.some.injEq,Obj.cells.injEq] at a2
  rcases hT with rfl|rfl|rfl
  ·
   exact .inl a2.2.1.symm
  ·
   exact .inr (.inl a2.2.1.symm)
  ·
   exact .inr (.inr (.inl a2.2.1.symm))
 ·
  exact⟨cur,hb.other (p:=(ad g j)) e v,rfl,.inr (.inr (.inr rfl))⟩⟩
def Wd (w:World) (g:Nat) (T:TypeId) (m:Nat):Prop:=∃cur,Box w g T cur/\m<=cur.size
theorem Wd.mk {w w':World}{g:Nat}{T:TypeId}{m:Nat}(h:Wd w g T m) (k:Mk w w'):Wd w' g T m:=by
 obtain⟨cur,h1,h2⟩:=h
 obtain⟨c2,k1,k2,_⟩:=k.shape g T cur h1
 exact⟨c2,k1,by omega⟩
theorem VOwn.wd {B:Nat}{e:TypeId}{c:Nat}{w:World}{g n:Nat}{F:Nat->Nat->Value}(h:VOwn B e c w (.slice (some (ad g 0)) n n) n F):Wd w g e (n*c):=by
 rcases h with⟨e,_⟩|⟨g',cap,cur,e,k1,k2,k3,k4,k5,k6⟩
 ·
  cases e
 ·
  simp only[Value.slice.injEq,Option.some.injEq,Addr.mk.injEq,and_true,true_and] at e
  obtain⟨rfl,rfl⟩:=e
  exact⟨cur,k2,by omega⟩
set_option maxHeartbeats 2000000 in
theorem wr41 (g n c:Nat) (k:Nat) (w:World) (hn:n<=1048576) (hk:k<=100000000000000) (hB:Wd w g 3 (n*1)):
  Calls Tryz.prog 59 #[.slice (some (ad g 0)) n c,.int .i64 (k:Int)] w fun e w'=>e=.returned (.int .i64 ((k+n:Nat):Int))/\Mk w w'/\Fr (fun b=>b=g) w w':=by
 have HB:Hid (Wd w g 3 (n*1)):=hB
 clear hB
 go_enter Tryz.func59,Tryz.ntmps59
 go_wp2_with fail
 go_loopw [1,5] (fun l i wr=>∃q:Nat,q<=n/\i=.int .i64 (q:Int)/\l=.int .i64 ((k+q:Nat):Int)/\Hid (Mk w wr/\Fr (fun b=>b=g) w wr)) (fun _ i _=>n-(intOf i).toNat)
 case atStart=>exact⟨0,Nat.zero_le _,rfl,rfl,Mk.refl _,Fr.refl _ _⟩
 case round=>
  obtain⟨q,hq,rfl,rfl,M⟩:=hrel
  by_cases hlt:q<n
  ·
   obtain⟨cu,hb,hz⟩:=HB.out.mk M.out.1
   have hq0:(0:Int)<=(q:Int):=by omega
   have hqn:(q:Int)<(n:Int):=by omega
   obtain⟨u,d0⟩:∃u,wr.cell? (ad g q)=some u:=⟨cu[q]'(by omega),by rw[hb.cell];exact Array.getElem?_eq_getElem _⟩
   have d1:=hb.free q
   have M2:Hid (∀v:Value,Mk w (wr.setCell (ad g q) v)/\Fr (fun b=>b=g) w (wr.setCell (ad g q) v)):=fun v=>⟨M.out.1.set hb (.inl rfl) q v,M.out.2.cells rfl _ _⟩
   clear M hb
   go_wp2_with fail
   go_roundw
   case rel=>exact⟨q+1,by omega,by go_num,by go_num,M2.out _⟩
   case measure=>simp[intOf];omega
  ·
   have hge:¬((q:Int)<(n:Int)):=by omega
   have hqn:q=n:=by omega
   have HR:Hid (Mk w wr/\Fr (fun b=>b=g) w wr):=M
   clear M
   go_wp2_with fail
   go_ret
   exact⟨by first |rfl|(rw[hqn];rfl),HR.out⟩
set_option maxHeartbeats 2000000 in
theorem wr66 (g n c:Nat) (k:Nat) (w:World) (hn:n<=1048576) (hk:k<=100000000000000) (hB:Wd w g 146 (n*2)):
  Calls Tryz.prog 94 #[.slice (some (ad g 0)) n c,.int .i64 (k:Int)] w fun e w'=>e=.returned (.int .i64 ((k+2*n:Nat):Int))/\Mk w w'/\Fr (fun b=>b=g) w w':=by
 have HB:Hid (Wd w g 146 (n*2)):=hB
 clear hB
 go_enter Tryz.func94,Tryz.ntmps94
 go_wp2_with fail
 go_loopw [1,5] (fun l i wr=>∃q:Nat,q<=n/\i=.int .i64 (q:Int)/\l=.int .i64 ((k+2*q:Nat):Int)/\Hid (Mk w wr/\Fr (fun b=>b=g) w wr)) (fun _ i _=>n-(intOf i).toNat)
 case atStart=>exact⟨0,Nat.zero_le _,rfl,rfl,Mk.refl _,Fr.refl _ _⟩
 case round=>
  obtain⟨q,hq,rfl,rfl,M⟩:=hrel
  by_cases hlt:q<n
  ·
   obtain⟨cu,hb,hz⟩:=HB.out.mk M.out.1
   have hq0:(0:Int)<=(q:Int):=by omega
   have hqn:(q:Int)<(n:Int):=by omega
   obtain⟨u,d0⟩:∃u,wr.cell? (ad g (q*2))=some u:=⟨cu[q*2]'(by omega),by rw[hb.cell];exact Array.getElem?_eq_getElem _⟩
   obtain⟨u',e0⟩:∃u,wr.cell? (ad g (q*2+1))=some u:=⟨cu[q*2+1]'(by omega),by rw[hb.cell];exact Array.getElem?_eq_getElem _⟩
   have d1:=hb.free (q*2)
   have e1:=hb.free (q*2+1)
   have M2:Hid (∀v v':Value,Mk w ((wr.setCell (ad g (q*2)) v).setCell (ad g (q*2+1)) v')/\Fr (fun b=>b=g) w ((wr.setCell (ad g (q*2)) v).setCell (ad g (q*2+1)) v')):=fun v v'=>⟨(M.out.1.set hb (.inr (.inl rfl)) (q*2) v).set (hb.set (q*2) v) (.inr (.inl rfl)) (q*2+1) v',(M.out.2.cells rfl _ _).cells rfl _ _⟩
   clear M hb
   go_wp2_with fail
   go_roundw
   case rel=>exact⟨q+1,by omega,by go_num,by go_num,M2.out _ _⟩
   case measure=>simp[intOf];omega
  ·
   have hge:¬((q:Int)<(n:Int)):=by omega
   have hqn:q=n:=by omega
   have HR:Hid (Mk w wr/\Fr (fun b=>b=g) w wr):=M
   clear M
   go_wp2_with fail
   go_ret
   exact⟨by first |rfl|(rw[hqn];rfl),HR.out⟩
set_option maxHeartbeats 2000000 in
theorem wr44 (g n c:Nat) (k:Nat) (w:World) (hn:n<=1048576) (hk:k<=100000000000000) (hB:Wd w g 4 (n*1)):
  Calls Tryz.prog 62 #[.slice (some (ad g 0)) n c,.int .i64 (k:Int)] w fun e w'=>e=.returned (.int .i64 ((k+n:Nat):Int))/\Mk w w'/\Fr (fun b=>b=g) w w':=by
 have HB:Hid (Wd w g 4 (n*1)):=hB
 clear hB
 go_enter Tryz.func62,Tryz.ntmps62
 go_wp2_with fail
 go_loopw [1,5] (fun l i wr=>∃q:Nat,q<=n/\i=.int .i64 (q:Int)/\l=.int .i64 ((k+q:Nat):Int)/\Hid (Mk w wr/\Fr (fun b=>b=g) w wr)) (fun _ i _=>n-(intOf i).toNat)
 case atStart=>exact⟨0,Nat.zero_le _,rfl,rfl,Mk.refl _,Fr.refl _ _⟩
 case round=>
  obtain⟨q,hq,rfl,rfl,M⟩:=hrel
  by_cases hlt:q<n
  ·
   obtain⟨cu,hb,hz⟩:=HB.out.mk M.out.1
   have hq0:(0:Int)<=(q:Int):=by omega
   have hqn:(q:Int)<(n:Int):=by omega
   obtain⟨u,d0⟩:∃u,wr.cell? (ad g q)=some u:=⟨cu[q]'(by omega),by rw[hb.cell];exact Array.getElem?_eq_getElem _⟩
   have d1:=hb.free q
   have M2:Hid (∀v:Value,Mk w (wr.setCell (ad g q) v)/\Fr (fun b=>b=g) w (wr.setCell (ad g q) v)):=fun v=>⟨M.out.1.set hb (.inr (.inr rfl)) q v,M.out.2.cells rfl _ _⟩
   clear M hb
   go_wp2_with fail
   go_roundw
   case rel=>exact⟨q+1,by omega,by go_num,by go_num,M2.out _⟩
   case measure=>simp[intOf];omega
  ·
   have hge:¬((q:Int)<(n:Int)):=by omega
   have hqn:q=n:=by omega
   have HR:Hid (Mk w wr/\Fr (fun b=>b=g) w wr):=M
   clear M
   go_wp2_with fail
   go_ret
   exact⟨by first |rfl|(rw[hqn];rfl),HR.out⟩
def BsW (w:World) (kb n:Nat) (K rr:Nat->Nat) (E:Nat):Prop:=
 ∃vs:Array Value,Box w kb 27 vs/\vs.size=n/\∀i,i<n->vs[i]?=some (.slice (some (ad (rr i) 0)) (K i) (K i))/\Wd w (rr i) 4 (K i*1)/\kb<rr i/\rr i<E
theorem BsW.mk {w w':World}{kb n:Nat}{K rr:Nat->Nat}{E:Nat}(h:BsW w kb n K rr E) (k:Mk w w'):BsW w' kb n K rr E:=by
 obtain⟨vs,h1,h2,h3⟩:=h
 obtain⟨c2,k1,_,k3⟩:=k.shape kb 27 vs h1
 have e:c2=vs:=by
  rcases k3 with k3|k3|k3|k3
  ·
   cases k3
  ·
   cases k3
  ·
   cases k3
  ·
   exact k3
 subst e
 exact⟨c2,k1,h2,fun i hi=>⟨(h3 i hi).1,(h3 i hi).2.1.mk k,(h3 i hi).2.2⟩⟩
theorem BsOwn.bw {w:World}{b n E:Nat}{K:Nat->Nat}{T:Nat->Nat->Bool}{r:Nat->Nat}(h:BsOwn w b n n K T r) (hE:w.heap.size<=E):BsW w b n K r E:=by
 obtain⟨vs,h1,h2,h3⟩:=h
 refine⟨vs,h1,h2,fun i hi=>?_⟩
 obtain⟨e1,e2,e3,_⟩:=h3 i hi
 exact⟨e1,e2.wd,e3,by have :=(e2.lt (g:=r i) rfl).2;omega⟩
set_option maxHeartbeats 2000000 in
theorem wr43 (kb n c:Nat) (K rr:Nat->Nat) (E:Nat) (k:Nat) (w:World) (hn:n<=1048576) (hK:∀i,i<n->K i<=1048576) (hk:k<=50000000000000) (hB:BsW w kb n K rr E):
  Calls Tryz.prog 61 #[.slice (some (ad kb 0)) n c,.int .i64 (k:Int)] w fun e w'=>(∃m:Nat,e=.returned (.int .i64 (m:Int))/\m<=50000000000000+n*1048576)/\Fr (fun b=>kb<b/\b<E) w w':=by
 have HB:Hid (BsW w kb n K rr E):=hB
 have HK:Hid (∀i,i<n->K i<=1048576):=hK
 clear hB hK
 go_enter Tryz.func61,Tryz.ntmps61
 go_wp2_with fail
 go_loopw [1,5] (fun l i wr=>∃q m:Nat,q<=n/\i=.int .i64 (q:Int)/\l=.int .i64 (m:Int)/\m<=50000000000000+q*1048576/\Hid (Mk w wr/\Fr (fun b=>kb<b/\b<E) w wr)) (fun _ i _=>n-(intOf i).toNat)
 case atStart=>exact⟨0,k,Nat.zero_le _,rfl,rfl,by omega,Mk.refl _,Fr.refl _ _⟩
 case round=>
  obtain⟨q,m,hq,rfl,rfl,hm,M⟩:=hrel
  by_cases hlt:q<n
  ·
   obtain⟨vs,h1,h2,h3⟩:=HB.out.mk M.out.1
   obtain⟨e1,e2,e3,e4⟩:=h3 q hlt
   have hq0:(0:Int)<=(q:Int):=by omega
   have hqn:(q:Int)<(n:Int):=by omega
   have d0:wr.cell? (ad kb q)=some (.slice (some (ad (rr q) 0)) (K q) (K q)):=by rw[h1.cell,e1]
   have hKq:=HK.out q hlt
   have HC:Hid (Calls Tryz.prog 62 #[.slice (some (ad (rr q) 0)) (K q) (K q),.int .i64 (m:Int)] wr fun e w'=>e=.returned (.int .i64 ((m+K q:Nat):Int))/\Mk w w'/\Fr (fun b=>kb<b/\b<E) w w'):=by
    refine(wr44 (rr q) (K q) (K q) m wr hKq (by omega) e2).mono ?_
    rintro e w' ⟨he,hmk,hf⟩
    exact⟨he,M.out.1.trans hmk,M.out.2.trans (hf.mono fun b _ hb=>by omega)⟩
   obtain⟨m2,hm2⟩:∃m2,Hid (m+K q=m2):=⟨_,rfl⟩
   rw[hm2.out] at HC
   have hb2:m2<=50000000000000+(q+1)*1048576:=by have :=hm2.out;omega
   clear M h1 h2 h3 e1 e2 e3 e4
   go_wp2_with fail
   refine HC.out.mono ?_
   rintro e w2 ⟨rfl,hbw,hfr⟩
   have M2:Hid (Mk w w2/\Fr (fun b=>kb<b/\b<E) w w2):=⟨hbw,hfr⟩
   clear HC hbw hfr d0
   go_wp2_with fail
   go_roundw
   case rel=>exact⟨q+1,m2,by omega,by go_num,rfl,hb2,M2⟩
   case measure=>simp[intOf];omega
  ·
   have hge:¬((q:Int)<(n:Int)):=by omega
   have HR:Hid (Fr (fun b=>kb<b/\b<E) w wr):=M.out.2
   have HM:Hid (m<=50000000000000+n*1048576):=Nat.le_trans hm (Nat.add_le_add_left (Nat.mul_le_mul_right _ hq) _)
   clear M
   go_wp2_with fail
   go_ret
   exact⟨⟨m,rfl,HM.out⟩,HR.out⟩
structure WyW (w:World) (vs:Array Value) (i:Nat) (y:Wy) (l E b1 b2 b3 b4 b5:Nat):Prop where
 c0:vs[i*5]?=some (.slice (some (ad b1 0)) y.ns y.ns)
 c1:vs[i*5+1]?=some (.slice (some (ad b2 0)) y.nl y.nl)
 c2:vs[i*5+2]?=some (.slice (some (ad b3 0)) y.nf y.nf)
 c3:vs[i*5+3]?=some (.slice (some (ad b4 0)) y.no y.no)
 c4:vs[i*5+4]?=some (.slice (some (ad b5 0)) y.nm y.nm)
 w1:Wd w b1 3 (y.ns*1)
 w2:Wd w b2 146 (y.nl*2)
 w3:Wd w b3 146 (y.nf*2)
 w4:Wd w b4 3 (y.no*1)
 w5:Wd w b5 3 (y.nm*1)
 lo:l<b1/\l<b2/\l<b3/\l<b4/\l<b5
 hi:b1<E/\b2<E/\b3<E/\b4<E/\b5<E
def WsW (w:World) (yb n:Nat) (Y:Nat->Wy) (E:Nat):Prop:=
 ∃vs:Array Value,Box w yb 112 vs/\vs.size=n*5/\∀i,i<n->∃b1 b2 b3 b4 b5,WyW w vs i (Y i) yb E b1 b2 b3 b4 b5
theorem WsW.mk {w w':World}{yb n:Nat}{Y:Nat->Wy}{E:Nat}(h:WsW w yb n Y E) (k:Mk w w'):WsW w' yb n Y E:=by
 obtain⟨vs,h1,h2,h3⟩:=h
 obtain⟨c2,k1,_,k3⟩:=k.shape yb 112 vs h1
 have e:c2=vs:=by
  rcases k3 with k3|k3|k3|k3
  ·
   cases k3
  ·
   cases k3
  ·
   cases k3
  ·
   exact k3
 subst e
 refine⟨c2,k1,h2,fun i hi=>?_⟩
 obtain⟨b1,b2,b3,b4,b5,hr⟩:=h3 i hi
 exact⟨b1,b2,b3,b4,b5,hr.c0,hr.c1,hr.c2,hr.c3,hr.c4,hr.w1.mk k,hr.w2.mk k,hr.w3.mk k,hr.w4.mk k,hr.w5.mk k,hr.lo,hr.hi⟩
theorem WsOwn.ww {w:World}{b n E:Nat}{Y:Nat->Wy}{lo:Nat->Nat}(h:WsOwn w b n n Y lo) (hE:w.heap.size<=E):WsW w b n Y E:=by
 obtain⟨vs,h1,h2,h3,h4,h5,h6⟩:=h
 refine⟨vs,h1,h2,fun i hi=>?_⟩
 obtain⟨b1,b2,b3,b4,b5,hr⟩:=h6 i hi
 have hl:b<lo i:=Nat.lt_of_lt_of_le h3 (h5 0 i (Nat.zero_le _) (by omega))
 have hu:=hr.lt
 have hu2:lo (i+1)<=lo n:=h5 (i+1) n (by omega) nr
 obtain⟨o1,o2,o3,o4,o5,s,l,f,o,m⟩:=hr.own
 exact⟨b1,b2,b3,b4,b5,hr.c0,hr.c1,hr.c2,hr.c3,hr.c4,s.wd,l.wd,f.wd,o.wd,m.wd,⟨by omega,by omega,by omega,by omega,by omega⟩,⟨by omega,by omega,by omega,by omega,by omega⟩⟩
set_option maxRecDepth 100000 in
set_option maxHeartbeats 8000000 in
theorem wr42 (yb n c:Nat) (Y:Nat->Wy) (E:Nat) (k:Nat) (w:World) (hn:n<=1048576) (hK:∀i,i<n->(Y i).small 1048576) (hk:k<=10000000) (hB:WsW w yb n Y E):
  Calls Tryz.prog 60 #[.slice (some (ad yb 0)) n c,.int .i64 (k:Int)] w fun e w'=>(∃m:Nat,e=.returned (.int .i64 (m:Int))/\m<=10000000+n*7340032)/\Mk w w'/\Fr (fun b=>yb<b/\b<E) w w':=by
 have HB:Hid (WsW w yb n Y E):=hB
 have HK:Hid (∀i,i<n->(Y i).small 1048576):=hK
 clear hB hK
 go_enter Tryz.func60,Tryz.ntmps60
 go_wp2_with fail
 go_loopw [1,5] (fun l i wr=>∃q m:Nat,q<=n/\i=.int .i64 (q:Int)/\l=.int .i64 (m:Int)/\m<=10000000+q*7340032/\Hid (Mk w wr/\Fr (fun b=>yb<b/\b<E) w wr)) (fun _ i _=>n-(intOf i).toNat)
 case atStart=>exact⟨0,k,Nat.zero_le _,rfl,rfl,by omega,Mk.refl _,Fr.refl _ _⟩
 case round=>
  obtain⟨q,m,hq,rfl,rfl,hm,M⟩:=hrel
  by_cases hlt:q<n
  ·
   obtain⟨vs,_,_,hall⟩:=HB.out
   obtain⟨b1,b2,b3,b4,b5,hr⟩:=hall q hlt
   have HG:Hid (∀W,Mk w W->Box W yb 112 vs):=fun W hW=>by
    obtain⟨vs2,a1,_,_⟩:=HB.out.mk hW
    obtain⟨vs',c1,_,c3⟩:=hW.shape yb 112 vs (by assumption)
    rcases c3 with c3|c3|c3|c3
    ·
     cases c3
    ·
     cases c3
    ·
     cases c3
    ·
     rw[<-c3];exact c1
   have HW:Hid (WyW w vs q (Y q) yb E b1 b2 b3 b4 b5):=hr
   obtain⟨l1,l2,l3,l4,l5⟩:=hr.lo
   obtain⟨u1,u2,u3,u4,u5⟩:=hr.hi
   obtain⟨g1,g2,g3,g4,g5⟩:=HK.out q hlt
   have hq0:(0:Int)<=(q:Int):=by omega
   have hqn:(q:Int)<(n:Int):=by omega
   have d0:wr.cell? (ad yb (q*5))=some (.slice (some (ad b1 0)) (Y q).ns (Y q).ns):=by rw[(HG.out wr M.out.1).cell,hr.c0]
   clear hr
   go_wp2_with fail
   clear d0
   refine(wr41 b1 (Y q).ns (Y q).ns m wr (by omega) (by omega) (HW.out.w1.mk M.out.1)).mono ?_
   rintro e v1 ⟨rfl,hk1,hf1⟩
   have N1:Hid (Mk w v1/\Fr (fun b=>yb<b/\b<E) w v1):=⟨M.out.1.trans hk1,M.out.2.trans (hf1.mono fun b _ hb=>by omega)⟩
   obtain⟨m1,hm1⟩:∃x,Hid (m+(Y q).ns=x):=⟨_,rfl⟩
   have hb1:m1<=m+1*1048576:=by have :=hm1.out;omega
   rw[hm1.out]
   clear hk1 hf1 hm1 M
   have d1:v1.cell? (ad yb (q*5+1))=some (.slice (some (ad b2 0)) (Y q).nl (Y q).nl):=by rw[(HG.out v1 N1.out.1).cell,HW.out.c1]
   go_wp2_with fail
   clear d1
   refine(wr66 b2 (Y q).nl (Y q).nl m1 v1 (by omega) (by omega) (HW.out.w2.mk N1.out.1)).mono ?_
   rintro e v2 ⟨rfl,hk2,hf2⟩
   have N2:Hid (Mk w v2/\Fr (fun b=>yb<b/\b<E) w v2):=⟨N1.out.1.trans hk2,N1.out.2.trans (hf2.mono fun b _ hb=>by omega)⟩
   obtain⟨m2,hm2⟩:∃x,Hid (m1+2*(Y q).nl=x):=⟨_,rfl⟩
   have hb2:m2<=m1+2*1048576:=by have :=hm2.out;omega
   rw[hm2.out]
   clear hk2 hf2 hm2 N1
   have d2:v2.cell? (ad yb (q*5+2))=some (.slice (some (ad b3 0)) (Y q).nf (Y q).nf):=by rw[(HG.out v2 N2.out.1).cell,HW.out.c2]
   go_wp2_with fail
   clear d2
   refine(wr66 b3 (Y q).nf (Y q).nf m2 v2 (by omega) (by omega) (HW.out.w3.mk N2.out.1)).mono ?_
   rintro e v3 ⟨rfl,hk3,hf3⟩
   have N3:Hid (Mk w v3/\Fr (fun b=>yb<b/\b<E) w v3):=⟨N2.out.1.trans hk3,N2.out.2.trans (hf3.mono fun b _ hb=>by omega)⟩
   obtain⟨m3,hm3⟩:∃x,Hid (m2+2*(Y q).nf=x):=⟨_,rfl⟩
   have hb3:m3<=m2+2*1048576:=by have :=hm3.out;omega
   rw[hm3.out]
   clear hk3 hf3 hm3 N2
   have d3:v3.cell? (ad yb (q*5+3))=some (.slice (some (ad b4 0)) (Y q).no (Y q).no):=by rw[(HG.out v3 N3.out.1).cell,HW.out.c3]
   go_wp2_with fail
   clear d3
   refine(wr41 b4 (Y q).no (Y q).no m3 v3 (by omega) (by omega) (HW.out.w4.mk N3.out.1)).mono ?_
   rintro e v4 ⟨rfl,hk4,hf4⟩
   have N4:Hid (Mk w v4/\Fr (fun b=>yb<b/\b<E) w v4):=⟨N3.out.1.trans hk4,N3.out.2.trans (hf4.mono fun b _ hb=>by omega)⟩
   obtain⟨m4,hm4⟩:∃x,Hid (m3+(Y q).no=x):=⟨_,rfl⟩
   have hb4:m4<=m3+1*1048576:=by have :=hm4.out;omega
   rw[hm4.out]
   clear hk4 hf4 hm4 N3
   have d4:v4.cell? (ad yb (q*5+4))=some (.slice (some (ad b5 0)) (Y q).nm (Y q).nm):=by rw[(HG.out v4 N4.out.1).cell,HW.out.c4]
   go_wp2_with fail
   clear d4
   refine(wr41 b5 (Y q).nm (Y q).nm m4 v4 (by omega) (by omega) (HW.out.w5.mk N4.out.1)).mono ?_
   rintro e v5 ⟨rfl,hk5,hf5⟩
   have N5:Hid (Mk w v5/\Fr (fun b=>yb<b/\b<E) w v5):=⟨N4.out.1.trans hk5,N4.out.2.trans (hf5.mono fun b _ hb=>by omega)⟩
   obtain⟨m5,hm5⟩:∃x,Hid (m4+(Y q).nm=x):=⟨_,rfl⟩
   have hb5:m5<=m4+1*1048576:=by have :=hm5.out;omega
   rw[hm5.out]
   clear hk5 hf5 hm5 N4
   go_wp2_with fail
   go_roundw
   case rel=>exact⟨q+1,m5,by omega,by go_num,rfl,by omega,N5⟩
   case measure=>simp[intOf];omega
  ·
   have hge:¬((q:Int)<(n:Int)):=by omega
   have HR:Hid (Mk w wr/\Fr (fun b=>yb<b/\b<E) w wr):=M
   have hqn:q=n:=by omega
   rw[hqn] at hm
   clear M
   go_wp2_with fail
   go_ret
   exact⟨⟨m,rfl,hm⟩,HR.out⟩
structure PlW (C E:Nat) (w:World) (p:Pl) (wb yb bb:Nat) (rr:Nat->Nat):Prop where
 c1:C<=wb
 c2:C<=yb
 c3:C<=bb
 e1:wb<E
 sw:Wd w wb 3 (p.nw*1)
 wy:WsW w yb p.ny p.Y E
 br:BsW w bb p.nb p.K rr E
theorem PlW.mk' {C E:Nat}{w w':World}{p:Pl}{wb yb bb:Nat}{rr:Nat->Nat}(h:PlW C E w p wb yb bb rr) (k:Mk w w'):PlW C E w' p wb yb bb rr:=⟨h.c1,h.c2,h.c3,h.e1,h.sw.mk k,h.wy.mk k,h.br.mk k⟩
theorem PlOwn.pw {C E:Nat}{w:World}{p:Pl}{wb yb bb:Nat}{lo rr:Nat->Nat}(h:PlOwn C w p wb yb bb lo rr) (hE:w.heap.size<=E):PlW C E w p wb yb bb rr:=by
 have h4:=h.wy.lo0
 have h1:=h.c1
 have h2:=h.c2
 have h3:=h.c3
 exact⟨h1,by omega,by omega,by have :=(h.sw.lt (g:=wb) rfl).2;omega,h.sw.wd,h.wy.ww hE,h.br.bw hE⟩
set_option maxRecDepth 100000 in
set_option maxHeartbeats 4000000 in
theorem markPlan15 (p:Pl) (wb yb bb:Nat) (rr:Nat->Nat) (C E:Nat) (w:World) (hs:p.small) (hny:p.ny<=1048576) (h:PlW C E w p wb yb bb rr):
  Calls Tryz.prog 18 #[.agg #[.int .i64 p.sec,.slice (some (ad wb 0)) p.nw p.nw,.slice (some (ad yb 0)) p.ny p.ny,.slice (some (ad bb 0)) p.nb p.nb,.int .i64 p.hold],.int .i64 ((1:Nat):Int)] w fun e w'=>(∃m:Nat,e=.returned (.int .i64 (m:Int))/\m<=60000000000000)/\Fr (fun b=>C<=b/\b<E) w w':=by
 obtain⟨s1,s2,s3,s4,s5⟩:=hs
 have HS:Hid ((∀i,i<p.ny->(p.Y i).small 1048576)/\∀i,i<p.nb->p.K i<=1048576):=⟨s3,s5⟩
 have M0:Hid (∃w0,w0=w.alloc (.cells (vPo p wb yb bb) 37)/\Box w0 w.heap.size 37 (vPo p wb yb bb)/\PlW C E w0 p wb yb bb rr/\Fr (fun b=>C<=b/\b<E) w w0):=⟨_,rfl,Box.new w 37 _,h.mk' (Mk.of_below (bel1 _ _)),Fr.of_below (bel1 _ _)⟩
 clear h s3 s5
 go_enter Tryz.func18,Tryz.ntmps18
 go_wp2_with fail
 obtain⟨w0,hw0,k1,k2,k3⟩:=M0.out
 rw[<-hw0]
 have MM:Hid (Box w0 w.heap.size 37 (vPo p wb yb bb)/\PlW C E w0 p wb yb bb rr/\Fr (fun b=>C<=b/\b<E) w w0):=⟨k1,k2,k3⟩
 have HBX:Hid (∀W,Mk w0 W->Box W w.heap.size 37 (vPo p wb yb bb)):=fun W hW=>by
  obtain⟨vs',c1,_,c3⟩:=hW.shape w.heap.size 37 _ k1
  rcases c3 with c3|c3|c3|c3
  ·
   cases c3
  ·
   cases c3
  ·
   cases c3
  ·
   rw[<-c3];exact c1
 clear hw0 M0 k1 k2 k3
 refine(wr41 wb p.nw p.nw 1 w0 s1 (by omega) MM.out.2.1.sw).mono ?_
 rintro e w1 ⟨rfl,hm1,hf1⟩
 have N1:Hid (Mk w0 w1/\Fr (fun b=>C<=b/\b<E) w w1):=⟨hm1,MM.out.2.2.trans (hf1.mono fun b _ e=>by have :=MM.out.2.1.c1;have :=MM.out.2.1.e1;omega)⟩
 have a2:=(HBX.out w1 N1.out.1).cel 2
 obtain⟨x1,hx1⟩:∃x,Hid (1+p.nw=x):=⟨_,rfl⟩
 have hb1:x1<=1048577:=by have :=hx1.out;omega
 rw[hx1.out]
 clear hm1 hf1 hx1
 go_wp2_with fail
 clear a2
 refine(wr42 yb p.ny p.ny p.Y E x1 w1 s2 HS.out.1 (by omega) (MM.out.2.1.wy.mk N1.out.1)).mono ?_
 rintro e w2 ⟨⟨x2,rfl,hx2⟩,hm2,hf2⟩
 have N2:Hid (Mk w0 w2/\Fr (fun b=>C<=b/\b<E) w w2):=⟨N1.out.1.trans hm2,N1.out.2.trans (hf2.mono fun b _ e=>by have :=MM.out.2.1.c2;omega)⟩
 have a3:=(HBX.out w2 N2.out.1).cel 3
 clear hm2 hf2 N1
 go_wp2_with fail
 clear a3
 refine(wr43 bb p.nb p.nb p.K rr E x2 w2 s4 HS.out.2 (by omega) (MM.out.2.1.br.mk N2.out.1)).mono ?_
 rintro e w3 ⟨⟨x3,rfl,hx3⟩,hf3⟩
 have N3:Hid (Fr (fun b=>C<=b/\b<E) w w3):=N2.out.2.trans (hf3.mono fun b _ e=>by have :=MM.out.2.1.c3;omega)
 clear hf3 N2
 go_wp2_with fail
 go_ret
 exact⟨⟨x3,rfl,by omega⟩,N3.out⟩
end Go.Proofs.YtkeilejbelblcaaGreatDoor
