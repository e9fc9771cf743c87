import Derived.Test.YtkeilejbelblcaaGreatDoorJal
import Derived.Test.YtkeilejbelblcaaGreatDoorJar
import Derived.Test.YtkeilejbelblcaaGreatDoorJau
import Derived.Test.YtkeilejbelblcaaGreatDoorK11
import Derived.Test.YtkeilejbelblcaaGreatDoorJaj
import Derived.Deep.CutBlock
namespace Go.Proofs.YtkeilejbelblcaaGreatDoor
open Go.RowKit
def trM (x:Int):Bool:=x.tmod 3==0
theorem VOwn.store1 {B:Nat}{e:TypeId}{w:World}{g cap n:Nat}{F G:Nat->Nat->Value}(h:VOwn B e 1 w (.slice (some (ad g 0)) n cap) n F) {i:Nat}(hi:i<n) (u:Value) (hG:∀i',i'<n->upd F i 0 u i' 0=G i' 0):VOwn B e 1 (w.setCell (ad g i) u) (.slice (some (ad g 0)) n cap) n G:=by
 have :=h.store hi (j:=0) (by omega) u
 rw[Nat.mul_one,Nat.add_zero] at this
 exact this.congr fun i' hi' j' hj'=>by
  obtain rfl:j'=0:=by omega
  exact hG i' hi'
set_option maxHeartbeats 2000000 in
theorem mark44 (B:Nat) (a:Option Addr) (n c:Nat) (F:Nat->Bool) (k:Nat) (w:World) (hn:n<=1048576) (hk:k<=100000000000000) (hQ:VOwn B 4 1 w (.slice a n c) n (boolF F)):
  Calls Tryz.prog 62 #[.slice a n c,.int .i64 (k:Int)] w fun e w'=>e=.returned (.int .i64 ((k+n:Nat):Int))/\VOwn B 4 1 w' (.slice a n c) n (boolF fun j=>trM ((k+j:Nat):Int))/\Fr (fun b=>(Value.slice a n c).ownBlock=some b) w w':=by
 have HQ:Hid (VOwn B 4 1 w (.slice a n c) n (boolF F)):=hQ
 clear hQ
 go_enter Tryz.func62,Tryz.ntmps62
 go_wp2_with fail
 go_loopw [1,5] (fun l i wr=>∃q:Nat,q<=n/\i=.int .i64 (q:Int)/\l=.int .i64 ((k+q:Nat):Int)/\Hid (VOwn B 4 1 wr (.slice a n c) n (boolF fun j=>if j<q then trM ((k+j:Nat):Int) else F j)/\Fr (fun b=>(Value.slice a n c).ownBlock=some b) w wr)) (fun _ i _=>n-(intOf i).toNat)
 case atStart=>exact⟨0,Nat.zero_le _,rfl,rfl,HQ.out.congr fun j _ _ _=>by simp,Fr.refl _ _⟩
 case round=>
  obtain⟨q,hq,rfl,rfl,M⟩:=hrel
  by_cases hlt:q<n
  ·
   obtain⟨g,ha,_,_⟩:=M.out.1.addr (by omega)
   subst ha
   have hq0:(0:Int)<=(q:Int):=by omega
   have hqn:(q:Int)<(n:Int):=by omega
   have d0:wr.cell? (ad g q)=some (.bool (if q<q then trM ((k+q:Nat):Int) else F q)):=by have :=M.out.1.cell hlt (j:=0) (by omega);rwa [Nat.mul_one] at this
   have d1:=M.out.1.free q
   have M2:Hid (VOwn B 4 1 (wr.setCell (ad g q) (.bool (trM ((k+q:Nat):Int)))) (.slice (some (ad g 0)) n c) n (boolF fun j=>if j<q+1 then trM ((k+j:Nat):Int) else F j)/\Fr (fun b=>(Value.slice (some (ad g 0)) n c).ownBlock=some b) w (wr.setCell (ad g q) (.bool (trM ((k+q:Nat):Int))))):=by
    refine⟨M.out.1.store1 hlt _ fun j hj=>?_,M.out.2.cells rfl _ _⟩
    unfold upd
    by_cases e:j=q
    ·
     subst e
     simp[boolF]
    ·
     have h1:(j<q+1)=(j<q):=by simp;omega
     simp[boolF,e,h1]
   clear M
   go_wp2_with fail
   go_roundw
   case rel=>exact⟨q+1,by omega,by go_num,by go_num,M2⟩
   case measure=>simp[intOf];omega
  ·
   have hge:¬((q:Int)<(n:Int)):=by omega
   have hqn:q=n:=by omega
   have HR:Hid (VOwn B 4 1 wr (.slice a n c) n (boolF fun j=>trM ((k+j:Nat):Int))/\Fr (fun b=>(Value.slice a n c).ownBlock=some b) w wr):=by
    refine⟨M.out.1.congr fun j hj _ _=>?_,M.out.2⟩
    have hjq:j<q:=by omega
    simp[boolF,hjq]
   clear M
   go_wp2_with fail
   go_ret
   exact⟨by first |rfl|(rw[hqn];rfl),HR.out⟩
def ptM (k i j:Nat):Int:=((k+2*i+j:Nat):Int)
set_option maxHeartbeats 2000000 in
theorem mark45 (B:Nat) (a:Option Addr) (n c:Nat) (F:Nat->Nat->Int) (k:Nat) (w:World) (hn:n<=1048576) (hk:k<=70000000000000) (hQ:VOwn B 69 2 w (.slice a n c) n (intF F)):
  Calls Tryz.prog 63 #[.slice a n c,.int .i64 (k:Int)] w fun e w'=>e=.returned (.int .i64 ((k+2*n:Nat):Int))/\VOwn B 69 2 w' (.slice a n c) n (intF (ptM k))/\Fr (fun b=>(Value.slice a n c).ownBlock=some b) w w':=by
 have HQ:Hid (VOwn B 69 2 w (.slice a n c) n (intF F)):=hQ
 clear hQ
 go_enter Tryz.func63,Tryz.ntmps63
 go_wp2_with fail
 go_loopw [1,5] (fun l i wr=>∃q:Nat,q<=n/\i=.int .i64 (q:Int)/\l=.int .i64 ((k+2*q:Nat):Int)/\Hid (VOwn B 69 2 wr (.slice a n c) n (intF fun i j=>if i<q then ptM k i j else F i j)/\Fr (fun b=>(Value.slice a n c).ownBlock=some b) w wr)) (fun _ i _=>n-(intOf i).toNat)
 case atStart=>exact⟨0,Nat.zero_le _,rfl,rfl,HQ.out.congr fun j _ _ _=>by simp[intF],Fr.refl _ _⟩
 case round=>
  obtain⟨q,hq,rfl,rfl,M⟩:=hrel
  by_cases hlt:q<n
  ·
   obtain⟨g,ha,_,_⟩:=M.out.1.addr (by omega)
   subst ha
   have hq0:(0:Int)<=(q:Int):=by omega
   have hqn:(q:Int)<(n:Int):=by omega
   have S1:=M.out.1.store hlt (j:=0) (by omega) (.int .i64 ((k+2*q:Nat):Int))
   have S2:=S1.store hlt (j:=1) (by omega) (.int .i64 ((k+2*q+1:Nat):Int))
   have d0:=M.out.1.cell hlt (j:=0) (by omega)
   have d1:=M.out.1.free (q*2)
   have e0:=M.out.1.cell hlt (j:=1) (by omega)
   have e1:=M.out.1.free (q*2+1)
   rw[Nat.add_zero] at d0 S2
   have M2:Hid (VOwn B 69 2 ((wr.setCell (ad g (q*2)) (.int .i64 ((k+2*q:Nat):Int))).setCell (ad g (q*2+1)) (.int .i64 ((k+2*q+1:Nat):Int))) (.slice (some (ad g 0)) n c) n (intF fun i j=>if i<q+1 then ptM k i j else F i j)/\Fr (fun b=>(Value.slice (some (ad g 0)) n c).ownBlock=some b) w ((wr.setCell (ad g (q*2)) (.int .i64 ((k+2*q:Nat):Int))).setCell (ad g (q*2+1)) (.int .i64 ((k+2*q+1:Nat):Int)))):=by
    refine⟨S2.congr fun i hi j hj=>?_,(M.out.2.cells rfl _ _).cells rfl _ _⟩
    unfold upd
    by_cases e:i=q
    ·
     subst e
     rcases(show j=0\/j=1 by omega) with rfl|rfl
     ·
      simp[intF,ptM]
     ·
      simp[intF,ptM]
    ·
     have h1:(i<q+1)=(i<q):=by simp;omega
     simp[intF,e,h1]
   clear M S1 S2
   go_wp2_with fail
   go_roundw
   case rel=>exact⟨q+1,by omega,by go_num,by go_num,M2⟩
   case measure=>simp[intOf];omega
  ·
   have hge:¬((q:Int)<(n:Int)):=by omega
   have hqn:q=n:=by omega
   have HR:Hid (VOwn B 69 2 wr (.slice a n c) n (intF (ptM k))/\Fr (fun b=>(Value.slice a n c).ownBlock=some b) w wr):=by
    refine⟨M.out.1.congr fun j hj _ _=>?_,M.out.2⟩
    have hjq:j<q:=by omega
    simp[intF,hjq]
   clear M
   go_wp2_with fail
   go_ret
   exact⟨by first |rfl|(rw[hqn];rfl),HR.out⟩
end Go.Proofs.YtkeilejbelblcaaGreatDoor
namespace Go.Proofs.YtkeilejbelblcaaGreatDoor
open Go.RowKit Go.Lib
set_option maxRecDepth 100000 in
set_option maxHeartbeats 16000000 in
theorem with116 (b off n cap:Nat) (B:Nat->Bool) (k:Nat) (x:Bool) (w:World) (hk:k<n) (hn:n<=1048576) (h:VsAt 1 0 w (some (ad b off)) n (boolF B)):
  Calls Tryz.prog 116 #[.slice (some (ad b off)) n cap,.int .i64 (k:Int),.bool x] w fun e w'=>∃g c,e=.returned (.slice (some (ad g 0)) n c)/\VOwn w.heap.size 4 1 w' (.slice (some (ad g 0)) n c) n (boolF (updN B k x))/\Below w.heap.size w w':=by
 have H:Hid (VsAt 1 0 w (some (ad b off)) n (boolF B)):=h
 clear h
 go_enter Tryz.func116,Tryz.ntmps116
 go_wp2_with fail
 refine(clone123 b off n cap B w hn H.out).mono ?_
 rintro e w1 ⟨v,rfl,ho,hb⟩
 obtain⟨a,c,rfl⟩:=ho.val
 obtain⟨g,rfl,_,_⟩:=ho.addr (by omega)
 have hk0:(0:Int)<=(k:Int):=by omega
 have hkn:(k:Int)<(n:Int):=by omega
 have d0:w1.cell? (ad g k)=some (.bool (B k)):=by have :=ho.cell hk (j:=0) (by omega);rwa [Nat.mul_one] at this
 have d1:=ho.free k
 have M:Hid (VOwn w.heap.size 4 1 (w1.setCell (ad g k) (.bool x)) (.slice (some (ad g 0)) n c) n (boolF (updN B k x))/\Below w.heap.size w (w1.setCell (ad g k) (.bool x))):=by
  refine⟨ho.store1 hk _ fun j hj=>?_,hb.setCell (p:=(ad g k)) (ho.lt (g:=g) rfl).1 _⟩
  unfold upd updN
  by_cases e:j=k
  ·
   subst e
   simp[boolF]
  ·
   simp[boolF,e]
 clear ho hb H
 go_wp2_with fail
 go_ret
 exact⟨g,c,rfl,M.out⟩
set_option maxRecDepth 100000 in
set_option maxHeartbeats 16000000 in
theorem clone136 (b off n cap:Nat) (F:Nat->Nat->Int) (w:World) (hn:n<=1048576) (h:VsAt 2 0 w (some (ad b off)) n (intF F)):
  Calls Tryz.prog 136 #[.slice (some (ad b off)) n cap] w fun e w'=>∃v,e=.returned v/\VOwn w.heap.size 69 2 w' v n (intF F)/\Below w.heap.size w w':=by
 obtain⟨i1,hi1,hz1,hs1,hb1⟩:=info_parts infoPt
 have hnil:∀W:World,(binOp .eql 39 (.slice (some (ad b off)) n cap) (.slice none 0 0)).run Tryz.prog W=.ok (.bool false) W:=fun W=>Lib.run_eql_slice_nil W 39 69 _ n cap 0 0 Tryz.underlying39
 have B0:=bel1 w (.cells #[] 69)
 have hrow:VOwn w.heap.size 69 2 (w.alloc (.cells #[] 69)) (.slice (some (ad w.heap.size 0)) 0 0) 0 (intF F):=.inr ⟨_,0,#[],rfl,Nat.le_refl _,Box.new _ _ _,Nat.le_refl _,by simp[maxLen],rfl,fun i hi=>absurd hi (Nat.not_lt_zero _)⟩
 have hv:=h.mono nr B0 nr
 go_enter Tryz.func136,Tryz.ntmps136
 go_wp2_with(at_builtin;go_must (refine wpList_vcp _ rfl _ _ 39 rfl w.heap.size 69 i1 _ 2 16 Tryz.underlying39 hi1 hz1 hs1 hb1 rfl (by decide) (.slice (some (ad w.heap.size 0)) 0 0) (intF F) rfl hrow b off n cap (intF F) rfl hv (fun _ _=>rfl) (by simp only[maxLen];omega) (by omega) (by simp) (Halt.mk ?_)))
 intro v2 w2 o2 g2
 have HB:Hid (VOwn w.heap.size 69 2 w2 v2 n (intF F)/\Below w.heap.size w w2):=⟨o2,B0.grown g2 (by simp) (fun j hj=>(hrow.lt hj).1)⟩
 clear o2 g2 hrow hv B0
 go_wp2_with fail
 go_ret
 exact⟨_,rfl,HB.out.1,HB.out.2⟩
def ptU (F:Nat->Nat->Int) (k:Nat) (x y:Int):Nat->Nat->Int:=fun i j=>if i=k then(if j=0 then x else y) else F i j
set_option maxRecDepth 100000 in
set_option maxHeartbeats 16000000 in
theorem with117 (b off n cap:Nat) (F:Nat->Nat->Int) (k:Nat) (x y:Int) (w:World) (hk:k<n) (hn:n<=1048576) (h:VsAt 2 0 w (some (ad b off)) n (intF F)):
  Calls Tryz.prog 117 #[.slice (some (ad b off)) n cap,.int .i64 (k:Int),.agg #[.int .i64 x,.int .i64 y]] w fun e w'=>∃g c,e=.returned (.slice (some (ad g 0)) n c)/\VOwn w.heap.size 69 2 w' (.slice (some (ad g 0)) n c) n (intF (ptU F k x y))/\Below w.heap.size w w':=by
 have H:Hid (VsAt 2 0 w (some (ad b off)) n (intF F)):=h
 have S0:Hid (Sts [kBx (w.heap.size) 69 #[.int .i64 x,.int .i64 y],kBn w.heap.size w] (w.alloc (.cells #[.int .i64 x,.int .i64 y] 69))):=⟨(Box.new w 69 #[.int .i64 x,.int .i64 y]),⟨bel1 _ _,rfl⟩,trivial⟩
 clear h
 go_enter Tryz.func117,Tryz.ntmps117
 go_wp2_with fail
 generalize (w.alloc (.cells #[.int .i64 x,.int .i64 y] 69))=V0 at S0⊢
 refine(clone136 b off n cap F V0 hn (H.out.mono nr (gL S0.out.2.1) nr)).mono ?_
 rintro e w1 ⟨v,rfl,ho,hb⟩
 obtain⟨a,c,rfl⟩:=ho.val
 obtain⟨g,rfl,hg,_⟩:=ho.addr (by omega)
 have hk0:(0:Int)<=(k:Int):=by omega
 have hkn:(k:Int)<(n:Int):=by omega
 have d0:=ho.cell hk (j:=0) (by omega)
 have d1:=ho.cell hk (j:=1) (by omega)
 have e0:=ho.free (k*2)
 have e1:=ho.free (k*2+1)
 have HGN:Hid (w.heap.size<=g):=Nat.le_trans (gL S0.out.2.1).size hg
 have S1:=ho.store hk (j:=0) (by omega) (.int .i64 x)
 have S2:=S1.store hk (j:=1) (by omega) (.int .i64 y)
 simp only[Nat.add_zero] at d0 S1 S2
 obtain⟨x0,x1⟩:=((gB S0.out.1).mono hb nr).c2
 have M:Hid (VOwn w.heap.size 69 2 ((w1.setCell (ad g (k*2)) (.int .i64 x)).setCell (ad g (k*2+1)) (.int .i64 y)) (.slice (some (ad g 0)) n c) n (intF (ptU F k x y))/\Below w.heap.size w ((w1.setCell (ad g (k*2)) (.int .i64 x)).setCell (ad g (k*2+1)) (.int .i64 y))):=by
  refine⟨(S2.keep (gL S0.out.2.1).size (fun _ _=>rfl)).congr fun i hi j hj=>?_,((((gL S0.out.2.1).trans (hb.mono (gL S0.out.2.1).size)).setCell HGN.out _).setCell HGN.out _)⟩
  unfold upd ptU intF
  by_cases e:i=k
  ·
   subst e
   rcases(show j=0\/j=1 by omega) with rfl|rfl<;>simp
  ·
   simp[e]
 clear ho hb H S1 S2 S0 HGN
 go_wp2_with fail
 go_ret
 exact⟨g,c,rfl,M.out⟩
set_option maxRecDepth 100000 in
set_option maxHeartbeats 16000000 in
theorem with133 (M:Nat) (a:Option Addr) (n c:Nat) (N:Nat->Nat) (S:Nat->WS) (v:Nat->Value) (k:Nat) (s:WS) (t:TypeId) (z:Value) (w:World) (hk:k<n) (hn:n<=1048576) (hx:WsV w (N k) s (.iface t z)) (h:WlOwn M w a n c N S v):
  Calls Tryz.prog 133 #[.slice a n c,.int .i64 (k:Int),.iface t z] w fun e w'=>∃ua uc vv,e=.returned (.slice ua n uc)/\WlOwn w.heap.size w' ua n uc N (updN S k s) vv/\Below w.heap.size w w':=by
 have H:Hid (WlOwn M w a n c N S v/\WsV w (N k) s (.iface t z)):=⟨h,hx⟩
 clear h hx
 go_enter Tryz.func133,Tryz.ntmps133
 go_wp2_with fail
 refine(clone100 M a n c v w hn H.out.1.one H.out.1.own).mono ?_
 rintro e w1 ⟨u,rfl,ho,hb⟩
 obtain⟨ua,uc,rfl⟩:=ho.val
 obtain⟨g,rfl,_,_⟩:=ho.addr (by omega)
 have hk0:(0:Int)<=(k:Int):=by omega
 have hkn:(k:Int)<(n:Int):=by omega
 have d0:w1.cell? (ad g k)=some (v k):=by have :=ho.cell hk (j:=0) (by omega);rwa [Nat.mul_one] at this
 have d1:=ho.free k
 obtain⟨cur,hbx⟩:=ho.box (g:=g) rfl
 have W1:WlOwn w.heap.size w1 (some (ad g 0)) n uc N S v:=⟨ho,fun i hi=>(H.out.1.ws i hi).mono hb nr,H.out.1.one⟩
 have M2:Hid (WlOwn w.heap.size (w1.setCell (ad g k) (.iface t z)) (some (ad g 0)) n uc N (updN S k s) (fun i=>if i=k then .iface t z else v i)/\Below w.heap.size w (w1.setCell (ad g k) (.iface t z))):=by
  refine⟨updL_step W1 hk ⟨t,z,rfl⟩ ?_ fun i hi hne=>⟨updN_ne hne,(W1.ws i hi).set hbx _ _⟩,hb.setCell (p:=(ad g k)) (ho.lt (g:=g) rfl).1 _⟩
  rw[updN_same]
  exact(H.out.2.mono hb nr).set hbx _ _
 clear ho hb H W1 hbx
 go_wp2_with fail
 go_ret
 exact⟨some (ad g 0),uc,_,rfl,M2.out⟩
def DeskQ (W:World) (p:Pl) (no np:Nat) (O:Nat->Bool) (P:Nat->Nat->Int) (S:Nat->WS) (ob oc pb pc:Nat) (ia:Option Addr) (ic:Nat):Prop:=
 (∃M,VOwn M 4 1 W (.slice (some (ad ob 0)) no oc) no (boolF O))/\(∃M,VOwn M 69 2 W (.slice (some (ad pb 0)) np pc) np (intF P))/\∃M v,WlOwn M W ia p.ny ic (fun i=>(p.Y i).ns) S v
theorem DeskQ.mono {W W':World}{p:Pl}{no np N:Nat}{O:Nat->Bool}{P:Nat->Nat->Int}{S:Nat->WS}{ob oc pb pc:Nat}{ia:Option Addr}{ic:Nat}(h:DeskQ W p no np O P S ob oc pb pc ia ic) (hb:Below N W W') (hN:W.heap.size<=N):DeskQ W' p no np O P S ob oc pb pc ia ic:=by
 obtain⟨⟨_,h1⟩,⟨_,h2⟩,_,_,h3⟩:=h
 exact⟨⟨_,h1.mono nr hb hN⟩,⟨_,h2.mono nr hb hN⟩,_,_,h3.mono nr hb hN⟩
def DR (p:Pl) (wb yb bb no np:Nat) (O:Nat->Bool) (P:Nat->Nat->Int) (S:Nat->WS) (w:World) (e:Ending) (w':World):Prop:=
 ∃(ob oc pb pc:Nat) (ia:Option Addr) (ic:Nat),e=.returned (.agg #[.int .i64 p.sec,.slice (some (ad wb 0)) p.nw p.nw,.slice (some (ad yb 0)) p.ny p.ny,.slice (some (ad bb 0)) p.nb p.nb,.int .i64 p.hold,.slice (some (ad ob 0)) no oc,.slice (some (ad pb 0)) np pc,.slice ia p.ny ic])/\DeskQ w' p no np O P S ob oc pb pc ia ic/\Below w.heap.size w w'
set_option maxRecDepth 100000 in
set_option maxHeartbeats 16000000 in
theorem turn119 (p:Pl) (wb yb bb ob oo no oc pb po np pc:Nat) (ia:Option Addr) (ic:Nat) (P:Nat->Nat->Int) (x:Nat) (ly:Int) (w:World) (hx:x<np) (hnp:np<=1048576) (hP:VsAt 2 0 w (some (ad pb po)) np (intF P)):
  Calls Tryz.prog 119 #[.agg #[.int .i64 p.sec,.slice (some (ad wb 0)) p.nw p.nw,.slice (some (ad yb 0)) p.ny p.ny,.slice (some (ad bb 0)) p.nb p.nb,.int .i64 p.hold,.slice (some (ad ob oo)) no oc,.slice (some (ad pb po)) np pc,.slice ia p.ny ic],.agg #[.int .i64 (x:Int),.int .i64 ly]] w fun e w'=>∃g c:Nat,e=.returned (.agg #[.int .i64 p.sec,.slice (some (ad wb 0)) p.nw p.nw,.slice (some (ad yb 0)) p.ny p.ny,.slice (some (ad bb 0)) p.nb p.nb,.int .i64 p.hold,.slice (some (ad ob oo)) no oc,.slice (some (ad g 0)) np c,.slice ia p.ny ic])/\VOwn w.heap.size 69 2 w' (.slice (some (ad g 0)) np c) np (intF (ptU P x ly (P x 1)))/\Below w.heap.size w w':=by
 have H:Hid (VsAt 2 0 w (some (ad pb po)) np (intF P)):=hP
 have HC:Hid (pb<w.heap.size/\w.cell? (ad pb (po+x*2+1))=some (.int .i64 (P x 1))):=by
  obtain⟨b',o',e,_,h1,h2⟩:=hP (by omega)
  simp only[Option.some.injEq,Addr.mk.injEq,and_true] at e
  obtain⟨rfl,rfl⟩:=e
  exact⟨h1,h2 x hx 1 (by omega)⟩
 have hx0:(0:Int)<=(x:Int):=by omega
 have hxn:(x:Int)<(np:Int):=by omega
 obtain⟨V0,hV,S0⟩:=st3 w 84 (vDk p wb yb bb (some (ad ob oo)) no oc (some (ad pb po)) np pc ia ic) 146 #[.int .i64 (x:Int),.int .i64 ly] 84 z8v
 clear hP
 go_enter Tryz.func119,Tryz.ntmps119
 go_upto_region 1 with fail
 clear hV
 go_cut [] from 5 (fun wx=>∃g c:Nat,Hid (Sts [kOw w.heap.size 69 2 (.slice (some (ad g 0)) np c) np (intF (ptU P x ly (P x 1))),kBx (w.heap.size+1+1) 84 z8v,kBx (w.heap.size+1) 146 #[.int .i64 (x:Int),.int .i64 ly],kBx (w.heap.size) 84 (vDk p wb yb bb (some (ad ob oo)) no oc (some (ad g 0)) np c ia ic),kBn w.heap.size w] wx))
 case first =>
  obtain⟨x0,x1⟩:=(gB S0.out.2.1).c2
  go_wp2_with fail
  refine wp_region_held_drew (S:=(fun wx:World=>wx.cell? (ad (w.heap.size+1) 0)=some (.int .i64 (x:Int))/\wx.cell? (ad (w.heap.size+1) 1)=some (.int .i64 ly))) (by kernel_rfl) ?_ (fun hHeld=>?_)
  ·
   exact⟨x0,x1⟩
  have MD1:=std S0
  clear x0 x1 S0
  generalize V0.drew=VD at MD1 hHeld⊢
  refine tk 0 ?_
  refine tk 2 ?_
  refine tk 3 ?_
  refine tk 4 ?_
  refine tk 5 ?_
  refine tk 6 ?_
  refine tk 8 ?_
  refine tk 9 ?_
  refine rl2 (i:=1) (j:=7) (by kernel_rfl) rfl rfl (fun K hK=>?_) (fun K hK=>?_)
  ·
   have o6:VD.cell? (ad w.heap.size 6)=some (.slice (some (ad pb po)) np pc):=(gB MD1.out.2.2.1).cell 6
   go_simp
   refine hK.out _ _ ?_ (fun hHeld=>?_)
   ·
    exact⟨(gB MD1.out.2.1).cell 0,(gB MD1.out.2.1).cell 1⟩
   clear hK K
   clear o6
   refine rl 7 fun K hK=>?_
   have o6:=(gB MD1.out.2.2.1).cel 6
   go_simp
   refine hK.out _ _ ?_ (fun hHeld=>?_)
   ·
    exact⟨(gB MD1.out.2.1).cell 0,(gB MD1.out.2.1).cell 1⟩
   clear hK K
   clear o6
   refine tk 10 ?_
   refine tk 11 ?_
   refine rl 12 fun K hK=>?_
   have o7:VD.cell? (ad pb (po+x*2+1))=some (.int .i64 (P x 1)):=cell_keep (gL MD1.out.2.2.2.1) HC.out.1 HC.out.2
   go_simp
   refine hK.out _ _ ?_ (fun hHeld=>?_)
   ·
    exact⟨(gB MD1.out.2.1).cell 0,(gB MD1.out.2.1).cell 1⟩
   clear hK K
   clear o7
   refine tk 13 ?_
   refine rl 14 fun K hK=>?_
   go_simp
   refine(with117 pb po np pc P x ly (P x 1) _ hx hnp (H.out.mono nr (gL MD1.out.2.2.2.1) nr)).mono ?_
   rintro e wh2 ⟨g,c,rfl,ho,hb⟩
   have MA3:=stx (k:=kOw w.heap.size 69 2 (.slice (some (ad g 0)) np c) np (intF (ptU P x ly (P x 1)))) (stm MD1 hb) (ho.keep (gL MD1.out.2.2.2.1).size (fun _ _=>rfl))
   clear hb ho MD1
   go_wp2_with fail
   refine hK.out _ _ ?_ (fun hHeld=>?_)
   ·
    exact⟨(gB MA3.out.2.2.1).cell 0,(gB MA3.out.2.2.1).cell 1⟩
   clear hK K
   refine tk 15 ?_
   have m6:=(gB MA3.out.2.2.2.1).cel 6
   obtain⟨mf0,mf1,mf2,mf3,mf4,mf5,mf6,mf7⟩:=(gB MA3.out.2.2.2.1).f8
   have hF5:=(Fr.refl (fun x=>x=w.heap.size) wh2).put 6 (.slice (some (ad g 0)) np c)
   have MA4:Hid (Sts [kOw w.heap.size 69 2 (.slice (some (ad g 0)) np c) np (intF (ptU P x ly (P x 1))),kBx (w.heap.size+1+1) 84 z8v,kBx (w.heap.size+1) 146 #[.int .i64 (x:Int),.int .i64 ly],kBx (w.heap.size) 84 (vDk p wb yb bb (some (ad ob oo)) no oc (some (ad g 0)) np c ia ic),kBn w.heap.size w] _):=⟨owf (gO MA3.out.1) (gB MA3.out.2.2.2.1) hF5,(gB MA3.out.2.1).fr hF5 (by omega),bxf (gB MA3.out.2.2.1) (gB MA3.out.2.2.2.1) hF5,by have h9:=((gB MA3.out.2.2.2.1).set 6 (.slice (some (ad g 0)) np c));exact h9,⟨blf MA3.out.2.2.2.2.1 nr hF5,rfl⟩,trivial⟩
   clear hF5
   clear MA3
   refine rl 16 fun K hK=>?_
   go_simp
   refine hK.out _ _ ?_ (fun hHeld=>?_)
   ·
    exact⟨(gB MA4.out.2.2.1).cell 0,(gB MA4.out.2.2.1).cell 1⟩
   clear hK K
   refine wpAnyH_done (by kernel_rfl) ?_ _
   clear m6 mf0 mf1 mf2 mf3 mf4 mf5 mf6 mf7 hHeld
   generalize (wh2.setCell (ad w.heap.size 6) (.slice (some (ad g 0)) np c))=W5 at MA4⊢
   go_wp2_with fail
   go_meet
   case rel=>exact⟨g,c,⟨(gO MA4.out.1),(gB MA4.out.2.1),(gB MA4.out.2.2.1),(gB MA4.out.2.2.2.1),⟨(gL MA4.out.2.2.2.2.1),rfl⟩,trivial⟩⟩
  ·
   have o6:VD.cell? (ad w.heap.size 6)=some (.slice (some (ad pb po)) np pc):=(gB MD1.out.2.2.1).cell 6
   go_simp
   refine hK.out _ _ ?_ (fun hHeld=>?_)
   ·
    exact⟨(gB MD1.out.2.1).cell 0,(gB MD1.out.2.1).cell 1⟩
   clear hK K
   clear o6
   refine tk 10 ?_
   refine tk 11 ?_
   refine rl2 (i:=1) (j:=12) (by kernel_rfl) rfl rfl (fun K hK=>?_) (fun K hK=>?_)
   ·
    have o6:VD.cell? (ad w.heap.size 6)=some (.slice (some (ad pb po)) np pc):=(gB MD1.out.2.2.1).cell 6
    go_simp
    refine hK.out _ _ ?_ (fun hHeld=>?_)
    ·
     exact⟨(gB MD1.out.2.1).cell 0,(gB MD1.out.2.1).cell 1⟩
    clear hK K
    clear o6
    refine rl 12 fun K hK=>?_
    have o7:VD.cell? (ad pb (po+x*2+1))=some (.int .i64 (P x 1)):=cell_keep (gL MD1.out.2.2.2.1) HC.out.1 HC.out.2
    go_simp
    refine hK.out _ _ ?_ (fun hHeld=>?_)
    ·
     exact⟨(gB MD1.out.2.1).cell 0,(gB MD1.out.2.1).cell 1⟩
    clear hK K
    clear o7
    refine tk 13 ?_
    refine rl 14 fun K hK=>?_
    go_simp
    refine(with117 pb po np pc P x ly (P x 1) _ hx hnp (H.out.mono nr (gL MD1.out.2.2.2.1) nr)).mono ?_
    rintro e wh6 ⟨g,c,rfl,ho,hb⟩
    have MA7:=stx (k:=kOw w.heap.size 69 2 (.slice (some (ad g 0)) np c) np (intF (ptU P x ly (P x 1)))) (stm MD1 hb) (ho.keep (gL MD1.out.2.2.2.1).size (fun _ _=>rfl))
    clear hb ho MD1
    go_wp2_with fail
    refine hK.out _ _ ?_ (fun hHeld=>?_)
    ·
     exact⟨(gB MA7.out.2.2.1).cell 0,(gB MA7.out.2.2.1).cell 1⟩
    clear hK K
    refine tk 15 ?_
    have m6:=(gB MA7.out.2.2.2.1).cel 6
    obtain⟨mf0,mf1,mf2,mf3,mf4,mf5,mf6,mf7⟩:=(gB MA7.out.2.2.2.1).f8
    have hF9:=(Fr.refl (fun x=>x=w.heap.size) wh6).put 6 (.slice (some (ad g 0)) np c)
    have MA8:Hid (Sts [kOw w.heap.size 69 2 (.slice (some (ad g 0)) np c) np (intF (ptU P x ly (P x 1))),kBx (w.heap.size+1+1) 84 z8v,kBx (w.heap.size+1) 146 #[.int .i64 (x:Int),.int .i64 ly],kBx (w.heap.size) 84 (vDk p wb yb bb (some (ad ob oo)) no oc (some (ad g 0)) np c ia ic),kBn w.heap.size w] _):=⟨owf (gO MA7.out.1) (gB MA7.out.2.2.2.1) hF9,(gB MA7.out.2.1).fr hF9 (by omega),bxf (gB MA7.out.2.2.1) (gB MA7.out.2.2.2.1) hF9,by have h9:=((gB MA7.out.2.2.2.1).set 6 (.slice (some (ad g 0)) np c));exact h9,⟨blf MA7.out.2.2.2.2.1 nr hF9,rfl⟩,trivial⟩
    clear hF9
    clear MA7
    refine rl 16 fun K hK=>?_
    go_simp
    refine hK.out _ _ ?_ (fun hHeld=>?_)
    ·
     exact⟨(gB MA8.out.2.2.1).cell 0,(gB MA8.out.2.2.1).cell 1⟩
    clear hK K
    refine wpAnyH_done (by kernel_rfl) ?_ _
    clear m6 mf0 mf1 mf2 mf3 mf4 mf5 mf6 mf7 hHeld
    generalize (wh6.setCell (ad w.heap.size 6) (.slice (some (ad g 0)) np c))=W5 at MA8⊢
    go_wp2_with fail
    go_meet
    case rel=>exact⟨g,c,⟨(gO MA8.out.1),(gB MA8.out.2.1),(gB MA8.out.2.2.1),(gB MA8.out.2.2.2.1),⟨(gL MA8.out.2.2.2.2.1),rfl⟩,trivial⟩⟩
   ·
    have o7:VD.cell? (ad pb (po+x*2+1))=some (.int .i64 (P x 1)):=cell_keep (gL MD1.out.2.2.2.1) HC.out.1 HC.out.2
    go_simp
    refine hK.out _ _ ?_ (fun hHeld=>?_)
    ·
     exact⟨(gB MD1.out.2.1).cell 0,(gB MD1.out.2.1).cell 1⟩
    clear hK K
    clear o7
    refine tk 13 ?_
    refine rl 1 fun K hK=>?_
    have o6:=(gB MD1.out.2.2.1).cel 6
    go_simp
    refine hK.out _ _ ?_ (fun hHeld=>?_)
    ·
     exact⟨(gB MD1.out.2.1).cell 0,(gB MD1.out.2.1).cell 1⟩
    clear hK K
    clear o6
    refine rl 14 fun K hK=>?_
    go_simp
    refine(with117 pb po np pc P x ly (P x 1) _ hx hnp (H.out.mono nr (gL MD1.out.2.2.2.1) nr)).mono ?_
    rintro e wh10 ⟨g,c,rfl,ho,hb⟩
    have MA11:=stx (k:=kOw w.heap.size 69 2 (.slice (some (ad g 0)) np c) np (intF (ptU P x ly (P x 1)))) (stm MD1 hb) (ho.keep (gL MD1.out.2.2.2.1).size (fun _ _=>rfl))
    clear hb ho MD1
    go_wp2_with fail
    refine hK.out _ _ ?_ (fun hHeld=>?_)
    ·
     exact⟨(gB MA11.out.2.2.1).cell 0,(gB MA11.out.2.2.1).cell 1⟩
    clear hK K
    refine tk 15 ?_
    have m6:=(gB MA11.out.2.2.2.1).cel 6
    obtain⟨mf0,mf1,mf2,mf3,mf4,mf5,mf6,mf7⟩:=(gB MA11.out.2.2.2.1).f8
    have hF13:=(Fr.refl (fun x=>x=w.heap.size) wh10).put 6 (.slice (some (ad g 0)) np c)
    have MA12:Hid (Sts [kOw w.heap.size 69 2 (.slice (some (ad g 0)) np c) np (intF (ptU P x ly (P x 1))),kBx (w.heap.size+1+1) 84 z8v,kBx (w.heap.size+1) 146 #[.int .i64 (x:Int),.int .i64 ly],kBx (w.heap.size) 84 (vDk p wb yb bb (some (ad ob oo)) no oc (some (ad g 0)) np c ia ic),kBn w.heap.size w] _):=⟨owf (gO MA11.out.1) (gB MA11.out.2.2.2.1) hF13,(gB MA11.out.2.1).fr hF13 (by omega),bxf (gB MA11.out.2.2.1) (gB MA11.out.2.2.2.1) hF13,by have h9:=((gB MA11.out.2.2.2.1).set 6 (.slice (some (ad g 0)) np c));exact h9,⟨blf MA11.out.2.2.2.2.1 nr hF13,rfl⟩,trivial⟩
    clear hF13
    clear MA11
    refine rl 16 fun K hK=>?_
    go_simp
    refine hK.out _ _ ?_ (fun hHeld=>?_)
    ·
     exact⟨(gB MA12.out.2.2.1).cell 0,(gB MA12.out.2.2.1).cell 1⟩
    clear hK K
    refine wpAnyH_done (by kernel_rfl) ?_ _
    clear m6 mf0 mf1 mf2 mf3 mf4 mf5 mf6 mf7 hHeld
    generalize (wh10.setCell (ad w.heap.size 6) (.slice (some (ad g 0)) np c))=W5 at MA12⊢
    go_wp2_with fail
    go_meet
    case rel=>exact⟨g,c,⟨(gO MA12.out.1),(gB MA12.out.2.1),(gB MA12.out.2.2.1),(gB MA12.out.2.2.2.1),⟨(gL MA12.out.2.2.2.2.1),rfl⟩,trivial⟩⟩
 case rest=>
  obtain⟨g,c,M6⟩:=hcut
  clear S0
  generalize wc=W6 at M6⊢
  obtain⟨m0,m1,m2,m3,m4,m5,m6,m7⟩:=(gB M6.out.2.2.2.1).c8
  go_wp2_with(refine wpList_rowH rfl 84 _ _ rfl (w.heap.size+1+1) #[.int .i64 p.sec,.slice (some (ad wb 0)) p.nw p.nw,.slice (some (ad yb 0)) p.ny p.ny,.slice (some (ad bb 0)) p.nb p.nb,.int .i64 p.hold,.slice (some (ad ob oo)) no oc,.slice (some (ad g 0)) np c,.slice ia p.ny ic] rfl rfl 84 _ (gB M6.out.2.1) (by kernel_rfl) rfl (by kernel_rfl) (Halt.mk ?_))
  intro W9 hB9 hF9
  have MR14:Hid (Sts [kOw w.heap.size 69 2 (.slice (some (ad g 0)) np c) np (intF (ptU P x ly (P x 1))),kBn w.heap.size w] W9):=⟨owf (gO M6.out.1) (gB M6.out.2.1) hF9,⟨blf M6.out.2.2.2.2.1 (Nat.le_add_right _ 2) hF9,rfl⟩,trivial⟩
  obtain⟨z0,z1,z2,z3,z4,z5,z6,z7⟩:=hB9.c8
  clear hF9 hB9 M6
  go_wp2_with fail
  exact bodyPost_ret (v:=.agg #[.int .i64 p.sec,.slice (some (ad wb 0)) p.nw p.nw,.slice (some (ad yb 0)) p.ny p.ny,.slice (some (ad bb 0)) p.nb p.nb,.int .i64 p.hold,.slice (some (ad ob oo)) no oc,.slice (some (ad g 0)) np c,.slice ia p.ny ic]) (by simp[results,Tryz.results119,go_sem,z0,z1,z2,z3,z4,z5,z6,z7]) rfl (⟨g,c,rfl,(gO MR14.out.1),(gL MR14.out.2.1)⟩)
end Go.Proofs.YtkeilejbelblcaaGreatDoor
