import Derived.Test.YtkeilejbelblcaaGreatDoorJax
import Derived.Test.YtkeilejbelblcaaGreatDoorJar
import Derived.Test.YtkeilejbelblcaaGreatDoorBa
import Derived.LaidEql
import Derived.Stop.Asserts
import Derived.RowKitTokens
namespace Go.Proofs.YtkeilejbelblcaaGreatDoor
open Go.RowKit Go.Lib
def kWl (M:Nat) (a:Option Addr) (n c:Nat) (N:Nat->Nat) (S:Nat->WS) (v:Nat->Value):Kp:=⟨fun W=>WlOwn M W a n c N S v,fun h hb=>h.mono nr hb nr⟩
theorem gW {M:Nat}{a:Option Addr}{n c:Nat}{N:Nat->Nat}{S:Nat->WS}{v:Nat->Value}{W:World}(h:(kWl M a n c N S v).p W):WlOwn M W a n c N S v:=h
theorem wlf {M q:Nat}{a:Option Addr}{n c:Nat}{N:Nat->Nat}{S:Nat->WS}{v:Nat->Value}{T:TypeId}{ys:Array Value}{W W':World}(h:WlOwn M W a n c N S v) (hq:Box W q T ys) (hF:Fr (fun x=>x=q) W W') (hT:T≠132:=by decide) (hT4:T≠4:=by decide):WlOwn M W' a n c N S v:=
 ⟨owf h.own hq hF hT,fun i hi=>(h.ws i hi).by_ fun b _ hb=>hF.block b hb.lt (fun e=>hb.ne hq (Ne.symm hT4) e),h.one⟩
def isTk:WS->Bool
 | .taking _=>true
 |_=>false
def tkT:WS->Int
 | .taking t=>t
 |_=>0
def tickW (t:Int):WS:=if t=1 then .idle else .taking (t-1)
def tickS:WS->WS
 | .taking t=>tickW t
 |s=>s
theorem tb161 (w:World) (x:Value):(Instr.typeAssert (.iface 161 x) 132 166 true).run Tryz.prog w=.ok (.tuple #[.agg #[.int .i64 0],.bool false]) w:=by kernel_rfl
theorem tb163 (w:World) (x:Value):(Instr.typeAssert (.iface 163 x) 132 166 true).run Tryz.prog w=.ok (.tuple #[.agg #[.int .i64 0],.bool false]) w:=by kernel_rfl
theorem tb164 (w:World) (x:Value):(Instr.typeAssert (.iface 164 x) 132 166 true).run Tryz.prog w=.ok (.tuple #[.agg #[.int .i64 0],.bool false]) w:=by kernel_rfl
theorem tb169 (w:World) (x:Value):(Instr.typeAssert (.iface 169 x) 132 166 true).run Tryz.prog w=.ok (.tuple #[.agg #[.int .i64 0],.bool false]) w:=by kernel_rfl
theorem tb166 (w:World) (x:Value):(Instr.typeAssert (.iface 166 x) 132 166 true).run Tryz.prog w=.ok (.tuple #[x,.bool true]) w:=by kernel_rfl
theorem tb_any {w:World}{n:Nat}{s:WS}{v:Value}(h:WsV w n s v) (W:World):(Instr.typeAssert v 132 166 true).run Tryz.prog W=.ok (.tuple #[.agg #[.int .i64 (tkT s)],.bool (isTk s)]) W:=by
 cases s with
 |idle=>obtain rfl:=(h:v=_);exact tb161 W _
 |set sh=>obtain rfl:=(h:v=_);exact tb163 W _
 |clear=>obtain rfl:=(h:v=_);exact tb164 W _
 |taking t=>obtain rfl:=(h:v=_);exact tb166 W _
 |used g B sh=>
  obtain⟨b,cap,cur,rfl,_⟩:=h
  exact tb169 W _
theorem tk_is {s:WS}(h:isTk s=true):s=.taking (tkT s):=by
 cases s<;>first |rfl|cases h
theorem tk_not {s:WS}(h:isTk s=false):tickS s=s:=by
 cases s<;>first |rfl|cases h
theorem DeskQ.fr {W W':World}{p:Pl}{no np q:Nat}{O:Nat->Bool}{P:Nat->Nat->Int}{S:Nat->WS}{ob oc pb pc:Nat}{ia:Option Addr}{ic:Nat}{ys:Array Value}{T:TypeId}(h:DeskQ W p no np O P S ob oc pb pc ia ic) (hq:Box W q T ys) (hF:Fr (fun x=>x=q) W W') (h0:T≠132:=by decide) (h1:T≠4:=by decide) (h2:T≠69:=by decide):DeskQ W' p no np O P S ob oc pb pc ia ic:=by
 obtain⟨⟨_,k1⟩,⟨_,k2⟩,_,_,k3⟩:=h
 exact⟨⟨_,owf k1 hq hF h1⟩,⟨_,owf k2 hq hF h2⟩,_,_,wlf k3 hq hF h0 h1⟩
set_option maxRecDepth 100000 in
set_option maxHeartbeats 16000000 in
theorem tick138 (t:Int) (w:World) (ht:1<=t/\t<=1000):
  Calls Tryz.prog 138 #[.agg #[.int .i64 t]] w fun e w'=>∃T z,e=.returned (.iface T z)/\(∀W n,WsV W n (tickW t) (.iface T z))/\Below w.heap.size w w':=by
 have hb:=bel1 w (.cells #[.int .i64 t] 166)
 by_cases h1:t=1
 ·
  have h1':(t==1)=true:=by simpa using h1
  have HE:Hid (∀W n,WsV W n (tickW t) (.iface 161 (.agg #[]))):=fun W n=>by rw[tickW,if_pos h1];rfl
  clear h1
  go_enter Tryz.func138,Tryz.ntmps138
  go_wp2_with fail
  go_ret
  exact⟨_,_,rfl,HE.out,hb⟩
 ·
  have h1':(t==1)=false:=by simpa using h1
  have hw:IntKind.i64.wrap (t-1)=t-1:=by rw[IntKind.wrap_i64];omega
  have HE:Hid (∀W n,WsV W n (tickW t) (.iface 166 (.agg #[.int .i64 (t-1)]))):=fun W n=>by rw[tickW,if_neg h1];rfl
  clear h1
  go_enter Tryz.func138,Tryz.ntmps138
  go_wp2_with fail
  go_ret
  exact⟨_,_,rfl,HE.out,hb⟩
theorem wl_next {M:Nat}{W:World}{a:Option Addr}{n c:Nat}{N:Nat->Nat}{S S':Nat->WS}{v:Nat->Value}(h:WlOwn M W a n c N S v) (e:∀i,i<n->S i=S' i):WlOwn M W a n c N S' v:=⟨h.own,fun i hi=>by rw[←e i hi];exact h.ws i hi,h.one⟩
set_option maxRecDepth 100000 in
set_option maxHeartbeats 16000000 in
theorem tick120 (p:Pl) (wb yb bb no np:Nat) (O:Nat->Bool) (P:Nat->Nat->Int) (S:Nat->WS) (ob oc pb pc:Nat) (ia:Option Addr) (ic:Nat) (w:World) (hny:p.ny<=1048576) (hS:∀i,i<p.ny->∀t,S i=.taking t->1<=t/\t<=1000) (hD:DeskQ w p no np O P S ob oc pb pc ia ic):
  Calls Tryz.prog 120 #[.agg #[.int .i64 p.sec,.slice (some (ad wb 0)) p.nw p.nw,.slice (some (ad yb 0)) p.ny p.ny,.slice (some (ad bb 0)) p.nb p.nb,.int .i64 p.hold,.slice (some (ad ob 0)) no oc,.slice (some (ad pb 0)) np pc,.slice ia p.ny ic]] w fun e w'=>DR p wb yb bb no np O P (fun i=>tickS (S i)) w e w':=by
 obtain⟨⟨M1,hO⟩,⟨M2,hP⟩,M,v,hW⟩:=hD
 have H:Hid (VOwn M1 4 1 w (.slice (some (ad ob 0)) no oc) no (boolF O)/\VOwn M2 69 2 w (.slice (some (ad pb 0)) np pc) np (intF P)/\WlOwn M w ia p.ny ic (fun i=>(p.Y i).ns) S v/\∀i,i<p.ny->∀t,S i=.taking t->1<=t/\t<=1000):=⟨hO,hP,hW,hS⟩
 obtain⟨V0,hV,S0⟩:=st2 w 84 (vDk p wb yb bb (some (ad ob 0)) no oc (some (ad pb 0)) np pc ia ic) 84 z8v
 clear hO hP hW hS
 go_enter Tryz.func120,Tryz.ntmps120
 go_upto_region 1 with fail
 clear hV
 have m7:=(gB S0.out.2.1).cel 7
 go_wp2_with fail
 clear m7
 go_loopw [10] (fun i wr=>∃q:Nat,q<=p.ny/\i=.int .i64 (q:Int)/\∃(ja:Option Addr) (jc N:Nat) (u:Nat->Value),Hid (Sts [kWl N ja p.ny jc (fun i=>(p.Y i).ns) (fun i=>if i<q then tickS (S i) else S i) u,kBx (w.heap.size+1) 84 z8v,kBx (w.heap.size) 84 (vDk p wb yb bb (some (ad ob 0)) no oc (some (ad pb 0)) np pc ja jc),kBn w.heap.size w] wr)) (fun i _=>p.ny-(intOf i).toNat)
 case atStart=>exact⟨0,Nat.zero_le _,rfl,ia,ic,M,v,wl_next ((H.out.2.2.1.mono nr (gL S0.out.2.2.1) nr)) (fun i _=>by simp),(gB S0.out.1),(gB S0.out.2.1),⟨(gL S0.out.2.2.1),rfl⟩,trivial⟩
 case round=>
  clear S0
  obtain⟨q,hq,rfl,ja,jc,N,u,T⟩:=hrel
  by_cases hlt:q<p.ny
  ·
   have W0:WlOwn M wr ia p.ny ic (fun i=>(p.Y i).ns) S v:=(H.out.2.2.1.mono nr (gL T.out.2.2.2.1) nr)
   obtain⟨b,off,rfl,_,hb2,hc2⟩:=W0.own.vs (by omega)
   have c0:wr.cell? (ad b (off+q))=some (v q):=by have :=hc2 q hlt 0 (by omega);simpa using this
   have hv:=W0.ws q hlt
   obtain⟨T0,x0,hx0⟩:=hv.one
   have ht:=tb_any hv
   rw[hx0] at c0 ht
   have HTK:Hid (∀t,S q=.taking t->1<=t/\t<=1000):=H.out.2.2.2 q hlt
   clear hv hx0 W0 hc2 hb2
   obtain⟨tt,HT⟩:∃t,Hid (tkT (S q)=t):=⟨_,rfl⟩
   obtain⟨bt,HB⟩:∃t,Hid (isTk (S q)=t):=⟨_,rfl⟩
   rw[HT.out,HB.out] at ht
   have hq0:(0:Int)<=(q:Int):=by omega
   have hqn:(q:Int)<(p.ny:Int):=by omega
   go_upto_block 1 with fail
   go_cut [3,4,5,6] from 11 to 28 (fun s3 s4 s5 s6 wx=>∃(ua:Option Addr) (uc N2:Nat) (vv:Nat->Value),Hid (Sts [kWl N2 ua p.ny uc (fun i=>(p.Y i).ns) (fun i=>if i<q+1 then tickS (S i) else S i) vv,kBx (w.heap.size+1) 84 z8v,kBx (w.heap.size) 84 (vDk p wb yb bb (some (ad ob 0)) no oc (some (ad pb 0)) np pc ua uc),kBn w.heap.size w] wx))
   case first =>
    have M5:=stx (k:=kBx (wr.heap.size) 166 #[.int .i64 tt]) (sta T (.cells #[.int .i64 tt] 166)) (Box.new _ _ _)
    have HL15:Hid (w.heap.size<=wr.heap.size):=(gL T.out.2.2.2.1).size
    go_upto_if 20 with(first |rw[ht]|fail)
    clear c0 ht T
    generalize wr.alloc (.cells #[.int .i64 tt] 166)=V5 at M5⊢
    generalize wr.heap.size=tq at M5 HL15⊢
    cases bt with
    |false=>
     have HSN:Hid (∀i,i<p.ny->(if i<q then tickS (S i) else S i)=if i<q+1 then tickS (S i) else S i):=fun i _=>by
      by_cases e:i=q
      ·
       subst e
       simp[tk_not HB.out]
      ·
       have :(i<q+1)=(i<q):=by simp;omega
       simp[this]
     go_wp2_with fail
     go_meet
     case rel=>exact⟨ja,jc,N,u,wl_next (gW M5.out.2.1) HSN.out,(gB M5.out.2.2.1),(gB M5.out.2.2.2.1),⟨(gL M5.out.2.2.2.2.1),rfl⟩,trivial⟩
    |true=>
     have HTT:Hid (1<=tt/\tt<=1000):=by
      have h9:=tk_is HB.out
      rw[HT.out] at h9
      exact HTK.out _ h9
     have HSQ:Hid (∀i,i<p.ny->updN (fun i=>if i<q then tickS (S i) else S i) q (tickW tt) i=if i<q+1 then tickS (S i) else S i):=fun i _=>by
      by_cases e:i=q
      ·
       subst e
       have h9:=tk_is HB.out
       rw[HT.out] at h9
       rw[updN_same,if_pos (by omega),h9]
       rfl
      ·
       have :(i<q+1)=(i<q):=by simp;omega
       rw[updN_ne e]
       simp[this]
     go_upto_region 6 with fail
     have x0:=(gB M5.out.1).cel 0
     go_wp2_with fail
     refine wp_region_held_drew (S:=(fun wx:World=>wx.cell? (ad tq 0)=some (.int .i64 tt))) (by kernel_rfl) ?_ (fun hHeld=>?_)
     ·
      exact x0
     have MD16:=std M5
     clear x0 M5
     generalize V5.drew=VD6 at MD16 hHeld⊢
     refine tk 0 ?_
     refine tk 2 ?_
     refine tk 3 ?_
     refine rl2 (i:=1) (j:=4) (by kernel_rfl) rfl rfl (fun K hK=>?_) (fun K hK=>?_)
     ·
      have o7:VD6.cell? (ad w.heap.size 7)=some (.slice ja p.ny jc):=(gB MD16.out.2.2.2.1).cell 7
      go_simp
      refine hK.out _ _ ?_ (fun hHeld=>?_)
      ·
       exact(gB MD16.out.1).cell 0
      clear hK K
      clear o7
      refine rl 4 fun K hK=>?_
      go_simp
      refine(tick138 tt _ HTT.out).mono ?_
      rintro e wh17 ⟨T2,z2,rfl,hz,hb⟩
      have HZ2:Hid (∀W n,WsV W n (tickW tt) (.iface T2 z2)):=hz
      clear hz
      have MA18:=stm MD16 hb
      clear hb MD16
      go_wp2_with fail
      refine hK.out _ _ ?_ (fun hHeld=>?_)
      ·
       exact(gB MA18.out.1).cell 0
      clear hK K
      refine rl 5 fun K hK=>?_
      go_simp
      refine(with133 N ja p.ny jc (fun i=>(p.Y i).ns) (fun i=>if i<q then tickS (S i) else S i) u q (tickW tt) T2 z2 _ hlt hny (HZ2.out _ _) (gW MA18.out.2.1)).mono ?_
      rintro e wh19 ⟨ua,uc,vv,rfl,ho,hb⟩
      have MA20:Hid (Sts [kWl wh17.heap.size ua p.ny uc (fun i=>(p.Y i).ns) (updN (fun i=>if i<q then tickS (S i) else S i) q (tickW tt)) vv,kBx (tq) 166 #[.int .i64 tt],kBx (w.heap.size+1) 84 z8v,kBx (w.heap.size) 84 (vDk p wb yb bb (some (ad ob 0)) no oc (some (ad pb 0)) np pc ja jc),kBn w.heap.size w] wh19):=⟨ho,(gB MA18.out.1).mono hb nr,(gB MA18.out.2.2.1).mono hb nr,(gB MA18.out.2.2.2.1).mono hb nr,⟨(gL MA18.out.2.2.2.2.1).trans (hb.mono (gL MA18.out.2.2.2.2.1).size),rfl⟩,trivial⟩
      clear hb ho MA18
      go_wp2_with fail
      refine hK.out _ _ ?_ (fun hHeld=>?_)
      ·
       exact(gB MA20.out.2.1).cell 0
      clear hK K
      refine tk 6 ?_
      have m7:=(gB MA20.out.2.2.2.1).cel 7
      obtain⟨mf0,mf1,mf2,mf3,mf4,mf5,mf6,mf7⟩:=(gB MA20.out.2.2.2.1).f8
      have hF22:=(Fr.refl (fun x=>x=w.heap.size) wh19).put 7 (.slice ua p.ny uc)
      have MA21:Hid (Sts [kWl wh17.heap.size ua p.ny uc (fun i=>(p.Y i).ns) (updN (fun i=>if i<q then tickS (S i) else S i) q (tickW tt)) vv,kBx (tq) 166 #[.int .i64 tt],kBx (w.heap.size+1) 84 z8v,kBx (w.heap.size) 84 (vDk p wb yb bb (some (ad ob 0)) no oc (some (ad pb 0)) np pc ua uc),kBn w.heap.size w] _):=⟨wlf (gW MA20.out.1) (gB MA20.out.2.2.2.1) hF22,bxf (gB MA20.out.2.1) (gB MA20.out.2.2.2.1) hF22,(gB MA20.out.2.2.1).fr hF22 (by omega),by have h9:=((gB MA20.out.2.2.2.1).set 7 (.slice ua p.ny uc));exact h9,⟨blf MA20.out.2.2.2.2.1 nr hF22,rfl⟩,trivial⟩
      clear hF22
      clear MA20
      refine rl 7 fun K hK=>?_
      go_simp
      refine hK.out _ _ ?_ (fun hHeld=>?_)
      ·
       exact(gB MA21.out.2.1).cell 0
      clear hK K
      refine wpAnyH_done (by kernel_rfl) ?_ _
      clear m7 mf0 mf1 mf2 mf3 mf4 mf5 mf6 mf7 hHeld
      generalize (wh19.setCell (ad w.heap.size 7) (.slice ua p.ny uc))=W7 at MA21⊢
      go_wp2_with fail
      go_meet
      case rel=>exact⟨ua,uc,_,vv,wl_next (gW MA21.out.1) HSQ.out,(gB MA21.out.2.2.1),(gB MA21.out.2.2.2.1),⟨(gL MA21.out.2.2.2.2.1),rfl⟩,trivial⟩
     ·
      go_simp
      refine(tick138 tt _ HTT.out).mono ?_
      rintro e wh23 ⟨T2,z2,rfl,hz,hb⟩
      have HZ2:Hid (∀W n,WsV W n (tickW tt) (.iface T2 z2)):=hz
      clear hz
      have MA24:=stm MD16 hb
      clear hb MD16
      go_wp2_with fail
      refine hK.out _ _ ?_ (fun hHeld=>?_)
      ·
       exact(gB MA24.out.1).cell 0
      clear hK K
      refine rl 1 fun K hK=>?_
      have o7:=(gB MA24.out.2.2.2.1).cel 7
      go_simp
      refine hK.out _ _ ?_ (fun hHeld=>?_)
      ·
       exact(gB MA24.out.1).cell 0
      clear hK K
      clear o7
      refine rl 5 fun K hK=>?_
      go_simp
      refine(with133 N ja p.ny jc (fun i=>(p.Y i).ns) (fun i=>if i<q then tickS (S i) else S i) u q (tickW tt) T2 z2 _ hlt hny (HZ2.out _ _) (gW MA24.out.2.1)).mono ?_
      rintro e wh25 ⟨ua,uc,vv,rfl,ho,hb⟩
      have MA26:Hid (Sts [kWl wh23.heap.size ua p.ny uc (fun i=>(p.Y i).ns) (updN (fun i=>if i<q then tickS (S i) else S i) q (tickW tt)) vv,kBx (tq) 166 #[.int .i64 tt],kBx (w.heap.size+1) 84 z8v,kBx (w.heap.size) 84 (vDk p wb yb bb (some (ad ob 0)) no oc (some (ad pb 0)) np pc ja jc),kBn w.heap.size w] wh25):=⟨ho,(gB MA24.out.1).mono hb nr,(gB MA24.out.2.2.1).mono hb nr,(gB MA24.out.2.2.2.1).mono hb nr,⟨(gL MA24.out.2.2.2.2.1).trans (hb.mono (gL MA24.out.2.2.2.2.1).size),rfl⟩,trivial⟩
      clear hb ho MA24
      go_wp2_with fail
      refine hK.out _ _ ?_ (fun hHeld=>?_)
      ·
       exact(gB MA26.out.2.1).cell 0
      clear hK K
      refine tk 6 ?_
      have m7:=(gB MA26.out.2.2.2.1).cel 7
      obtain⟨mf0,mf1,mf2,mf3,mf4,mf5,mf6,mf7⟩:=(gB MA26.out.2.2.2.1).f8
      have hF28:=(Fr.refl (fun x=>x=w.heap.size) wh25).put 7 (.slice ua p.ny uc)
      have MA27:Hid (Sts [kWl wh23.heap.size ua p.ny uc (fun i=>(p.Y i).ns) (updN (fun i=>if i<q then tickS (S i) else S i) q (tickW tt)) vv,kBx (tq) 166 #[.int .i64 tt],kBx (w.heap.size+1) 84 z8v,kBx (w.heap.size) 84 (vDk p wb yb bb (some (ad ob 0)) no oc (some (ad pb 0)) np pc ua uc),kBn w.heap.size w] _):=⟨wlf (gW MA26.out.1) (gB MA26.out.2.2.2.1) hF28,bxf (gB MA26.out.2.1) (gB MA26.out.2.2.2.1) hF28,(gB MA26.out.2.2.1).fr hF28 (by omega),by have h9:=((gB MA26.out.2.2.2.1).set 7 (.slice ua p.ny uc));exact h9,⟨blf MA26.out.2.2.2.2.1 nr hF28,rfl⟩,trivial⟩
      clear hF28
      clear MA26
      refine rl 7 fun K hK=>?_
      go_simp
      refine hK.out _ _ ?_ (fun hHeld=>?_)
      ·
       exact(gB MA27.out.2.1).cell 0
      clear hK K
      refine wpAnyH_done (by kernel_rfl) ?_ _
      clear m7 mf0 mf1 mf2 mf3 mf4 mf5 mf6 mf7 hHeld
      generalize (wh25.setCell (ad w.heap.size 7) (.slice ua p.ny uc))=W7 at MA27⊢
      go_wp2_with fail
      go_meet
      case rel=>exact⟨ua,uc,_,vv,wl_next (gW MA27.out.1) HSQ.out,(gB MA27.out.2.2.1),(gB MA27.out.2.2.2.1),⟨(gL MA27.out.2.2.2.2.1),rfl⟩,trivial⟩
   case rest=>
    obtain⟨ua,uc,N2,vv,T2⟩:=hcut
    clear c0 ht T
    generalize wc=W8 at T2⊢
    go_wp2_with fail
    go_roundw
    case rel=>exact⟨q+1,by omega,by go_num,ua,uc,N2,vv,T2⟩
    case measure=>simp[intOf];omega
  ·
   have hge:¬((q:Int)<(p.ny:Int)):=by omega
   have hqn:q=p.ny:=by omega
   have HSE:Hid (∀i,i<p.ny->(if i<q then tickS (S i) else S i)=tickS (S i)):=fun i hi=>if_pos (by omega)
   clear hqn
   obtain⟨m0,m1,m2,m3,m4,m5,m6,m7⟩:=(gB T.out.2.2.1).c8
   go_wp2_with(refine wpList_rowH rfl 84 _ _ rfl (w.heap.size+1) #[.int .i64 p.sec,.slice (some (ad wb 0)) p.nw p.nw,.slice (some (ad yb 0)) p.ny p.ny,.slice (some (ad bb 0)) p.nb p.nb,.int .i64 p.hold,.slice (some (ad ob 0)) no oc,.slice (some (ad pb 0)) np pc,.slice ja p.ny jc] rfl rfl 84 _ (gB T.out.2.1) (by kernel_rfl) rfl (by kernel_rfl) (Halt.mk ?_))
   intro W9 hB9 hF9
   have MR29:Hid (Sts [kWl N ja p.ny jc (fun i=>(p.Y i).ns) (fun i=>if i<q then tickS (S i) else S i) u,kBn w.heap.size w] W9):=⟨wlf (gW T.out.1) (gB T.out.2.1) hF9,⟨blf T.out.2.2.2.1 (Nat.le_add_right _ 1) hF9,rfl⟩,trivial⟩
   obtain⟨z0,z1,z2,z3,z4,z5,z6,z7⟩:=hB9.c8
   clear hF9 hB9 T
   go_wp2_with fail
   exact bodyPost_ret (v:=.agg #[.int .i64 p.sec,.slice (some (ad wb 0)) p.nw p.nw,.slice (some (ad yb 0)) p.ny p.ny,.slice (some (ad bb 0)) p.nb p.nb,.int .i64 p.hold,.slice (some (ad ob 0)) no oc,.slice (some (ad pb 0)) np pc,.slice ja p.ny jc]) (by simp[results,Tryz.results120,go_sem,z0,z1,z2,z3,z4,z5,z6,z7]) rfl (⟨ob,oc,pb,pc,ja,jc,rfl,⟨⟨M1,(H.out.1.mono nr (gL MR29.out.2.1) nr)⟩,⟨M2,(H.out.2.1.mono nr (gL MR29.out.2.1) nr)⟩,N,u,wl_next (gW MR29.out.1) HSE.out⟩,(gL MR29.out.2.1)⟩)
def anyO (O:Nat->Bool) (A:Nat->Int) (m:Nat):Bool:=anyB (fun i=>O (A i).toNat) m
set_option maxRecDepth 100000 in
set_option maxHeartbeats 16000000 in
theorem cl145 (ob oo no oc o:Nat) (u:Bool) (bq:Nat) (w:World) (ho:o<no) (c1:w.cell? (ad ob (oo+o))=some (.bool u)) (hx:w.cell? (ad bq 5)=some (.slice (some (ad ob oo)) no oc)):
  Calls Tryz.prog 145 #[.int .i64 (o:Int),.pointer (some (ad bq 0))] w fun e w'=>e=.returned (.bool u)/\w'=w:=by
 have ho0:(0:Int)<=(o:Int):=by omega
 have ho1:(o:Int)<(no:Int):=by omega
 go_enter Tryz.func145,Tryz.ntmps145
 go_wp2_with fail
 go_ret
 exact⟨rfl,rfl⟩
set_option maxRecDepth 100000 in
set_option maxHeartbeats 16000000 in
theorem index145 (a:Option Addr) (m ca:Nat) (A:Nat->Int) (ob oo no oc:Nat) (O:Nat->Bool) (bq:Nat) (w:World) (hm:m<=1048576) (hno:no<=1048576) (hA:VsAt 1 0 w a m (oneF A)) (hin:∀i,i<m->∃o:Nat,A i=(o:Int)/\o<no) (hO:VsAt 1 0 w (some (ad ob oo)) no (boolF O)) (hx:w.cell? (ad bq 5)=some (.slice (some (ad ob oo)) no oc)):
  Calls Tryz.prog 151 #[.slice a m ca,.func (.func 145) #[] #[.pointer (some (ad bq 0))]] w fun e w'=>∃r:Int,e=.returned (.int .i64 r)/\decide (0<=r)=anyO O A m/\w'=w:=by
 have H:Hid (VsAt 1 0 w a m (oneF A)/\VsAt 1 0 w (some (ad ob oo)) no (boolF O)/\∀i,i<m->∃o:Nat,A i=(o:Int)/\o<no):=⟨hA,hO,hin⟩
 clear hA hO hin
 go_enter Tryz.func151,Tryz.ntmps151
 go_wp2_with fail
 go_loop [8] (fun i=>∃k:Nat,k<=m/\i=.int .i64 k/\Hid (∀j,j<k->O (A j).toNat=false)) (fun i=>m-(intOf i).toNat)
 case atStart=>exact⟨0,Nat.zero_le _,rfl,fun i hi=>absurd hi (Nat.not_lt_zero _)⟩
 case round=>
  obtain⟨k,hk,rfl,HK⟩:=hrel
  by_cases hlt:k<m
  ·
   obtain⟨ab,off,rfl,_,hb,hc⟩:=H.out.1 (by omega)
   obtain⟨o,ho,hon⟩:=H.out.2.2 k hlt
   have c0:w.cell? (ad ab (off+k))=some (.int .i64 (o:Int)):=by have :=hc k hlt 0 (by omega);rw[Nat.mul_one] at this;rw[←ho];exact this
   obtain⟨u,HU⟩:∃u,Hid (O o=u):=⟨_,rfl⟩
   have c1:w.cell? (ad ob (oo+o))=some (.bool u):=by
    obtain⟨b',o',e,_,_,h2⟩:=H.out.2.1 (by omega)
    simp only[Option.some.injEq,Addr.mk.injEq,and_true] at e
    obtain⟨rfl,rfl⟩:=e
    have :=h2 o hon 0 (by omega)
    rw[Nat.mul_one] at this
    rw[←HU.out]
    exact this
   have HO:Hid (O (A k).toNat=u):=by rw[ho,Int.toNat_natCast];exact HU.out
   have hk0:(0:Int)<=(k:Int):=by omega
   have hkn:(k:Int)<(m:Int):=by omega
   have HX:Hid (w.cell? (ad ob (oo+o))=some (.bool u)):=c1
   clear hc ho HU c1
   go_wp2_with fail
   refine(cl145 ob oo no oc o u bq w hon HX.out hx).mono ?_
   rintro e w2 ⟨rfl,hw⟩
   have hw:=hw.symm
   subst hw
   cases u with
   |true=>
    have HF:Hid (anyO O A m=true):=anyB_yes hlt HO.out
    go_wp2_with fail
    go_ret
    exact⟨_,rfl,by rw[HF.out];simp,rfl⟩
   |false=>
    have HK2:Hid (∀j,j<k+1->O (A j).toNat=false):=fun j hj=>by
     by_cases c:j=k
     ·
      subst c
      exact HO.out
     ·
      exact HK.out j (by omega)
    go_wp2_with fail
    go_round
    case rel=>exact⟨k+1,by omega,by go_num,HK2⟩
    case measure=>simp[intOf];omega
  ·
   have HF:Hid (anyO O A m=false):=anyB_no fun j hj=>HK.out j (by omega)
   have hge:¬((k:Int)<(m:Int)):=by omega
   go_wp2_with fail
   go_ret
   exact⟨_,rfl,by rw[HF.out];rfl,rfl⟩
set_option maxRecDepth 100000 in
set_option maxHeartbeats 16000000 in
theorem some134 (p:Pl) (wb yb bb ob oo no oc:Nat) (pv iv:Value) (a:Option Addr) (m ca:Nat) (A:Nat->Int) (O:Nat->Bool) (w:World) (hm:m<=1048576) (hno:no<=1048576) (hA:VsAt 1 0 w a m (oneF A)) (hin:∀i,i<m->∃o:Nat,A i=(o:Int)/\o<no) (hO:VsAt 1 0 w (some (ad ob oo)) no (boolF O)):
  Calls Tryz.prog 134 #[.agg #[.int .i64 p.sec,.slice (some (ad wb 0)) p.nw p.nw,.slice (some (ad yb 0)) p.ny p.ny,.slice (some (ad bb 0)) p.nb p.nb,.int .i64 p.hold,.slice (some (ad ob oo)) no oc,pv,iv],.slice a m ca] w fun e w'=>e=.returned (.bool (anyO O A m))/\Below w.heap.size w w':=by
 have H:Hid (VsAt 1 0 w a m (oneF A)/\VsAt 1 0 w (some (ad ob oo)) no (boolF O)/\∀i,i<m->∃o:Nat,A i=(o:Int)/\o<no):=⟨hA,hO,hin⟩
 obtain⟨V0,hV,S0⟩:=st1 w 84 #[.int .i64 p.sec,.slice (some (ad wb 0)) p.nw p.nw,.slice (some (ad yb 0)) p.ny p.ny,.slice (some (ad bb 0)) p.nb p.nb,.int .i64 p.hold,.slice (some (ad ob oo)) no oc,pv,iv]
 clear hA hO hin
 go_enter Tryz.func134,Tryz.ntmps134
 go_wp2_with fail
 clear hV
 have e144:Calls Tryz.prog 144 #[.slice a m ca,.func (.func 145) #[] #[.pointer (some (ad w.heap.size 0))]] V0 fun e w'=>e=.returned (.bool (anyO O A m))/\w'=V0:=by
  have HB:Hid (V0.cell? (ad w.heap.size 5)=some (.slice (some (ad ob oo)) no oc)):=(gB S0.out.1).cell 5
  have HA:Hid (Below w.heap.size w V0):=gL S0.out.2.1
  clear S0
  go_enter Tryz.func144,Tryz.ntmps144
  go_wp2_with fail
  refine(index145 a m ca A ob oo no oc O (w.heap.size) V0 hm hno (H.out.1.mono nr HA.out nr) H.out.2.2 (H.out.2.1.mono nr HA.out nr) HB.out).mono ?_
  rintro e w1 ⟨r,rfl,hr,hw⟩
  have hw:=hw.symm
  subst hw
  have HR:Hid (decide (0<=r)=anyO O A m):=hr
  clear hr
  go_wp2_with fail
  go_ret
  exact⟨by rw[←HR.out];rfl,rfl⟩
 refine e144.mono ?_
 clear e144
 rintro e w1 ⟨rfl,hw⟩
 have hw:=hw.symm
 subst hw
 go_wp2_with fail
 go_ret
 exact⟨rfl,gL S0.out.2.1⟩
end Go.Proofs.YtkeilejbelblcaaGreatDoor
namespace Go.Proofs.YtkeilejbelblcaaGreatDoor
open Go.RowKit Go.Extern.Stop Go.Stop Go.Extern
theorem isTypeOf (v:Value) (w:World):(Extern.ReflectliteType.typeOf #[.iface 251 v]).run Tryz.prog w=.ok (.iface 201 (.agg #[.pointer (some (ad 7 251))])) w:=by kernel_rfl
theorem isComparable (w:World):((Extern.ReflectliteType.method fun t=>do Extern.Rtype.noPackHeld "Comparable" t;(fun a=>Value.bool a.comparable)<$> typeInfo t) #[.agg #[.pointer (some (ad 7 251))]]).run Tryz.prog w=.ok (.bool true) w:=by kernel_rfl
theorem isMethodComparable (v:Value) (w:World):(Go.method 390 201 v "Comparable").run Tryz.prog w=.ok (213,v) w:=by kernel_rfl
theorem isComp:(Tryz.prog.info? 251).map (·.comparable)=some true:=by kernel_rfl
theorem isSize:(Tryz.prog.info? 278).map (·.size)=some 1:=by kernel_rfl
theorem noIsE (v:Value) (xT:TypeId) (w:World):(Instr.typeAssert (.iface 251 v) xT 203 true).run Tryz.prog w=.ok (.tuple #[.nilIface,.bool false]) w:=run_typeAssert_lacksB Tryz.underlying203 (by kernel_rfl) (by kernel_rfl) v xT w
theorem noUnwrapE (v:Value) (xT:TypeId) (w:World):(Instr.typeAssert (.iface 251 v) xT 206 true).run Tryz.prog w=.ok (.tuple #[.nilIface,.bool false]) w:=run_typeAssert_lacksB Tryz.underlying206 (by kernel_rfl) (by kernel_rfl) v xT w
theorem noUnwrapsE (v:Value) (xT:TypeId) (w:World):(Instr.typeAssert (.iface 251 v) xT 208 true).run Tryz.prog w=.ok (.tuple #[.nilIface,.bool false]) w:=run_typeAssert_lacksB Tryz.underlying208 (by kernel_rfl) (by kernel_rfl) v xT w
theorem is_same (a:Addr) (w:World):
  Calls Tryz.prog 92 #[.iface 251 (.pointer (some a)),.iface 251 (.pointer (some a))] w fun e w'=>e=.returned (.bool true)/\w'=w:=by
 obtain⟨i,hi,hcmp⟩:=Option.map_eq_some_iff.1 isComp
 obtain⟨j,hj,hjs⟩:=Option.map_eq_some_iff.1 isSize
 have h8:= @run_callFunc_extern Tryz.prog 112 _ Extern.ReflectliteType.typeOf Tryz.func112 (by kernel_rfl) (by kernel_rfl) (by kernel_rfl) (by kernel_rfl)
 have h32:= @run_callFunc_extern Tryz.prog 213 _ (Extern.ReflectliteType.method fun t=>do Extern.Rtype.noPackHeld "Comparable" t;pure (.bool (←typeInfo t).comparable)) Tryz.func213 (by kernel_rfl) (by kernel_rfl) (by kernel_rfl) (by kernel_rfl)
 have tT:=isTypeOf
 have cT:=isComparable
 have mR:=isMethodComparable
 have heq:=run_eql_iface_ptr_same (P:=Tryz.prog) w a Tryz.underlying86 Tryz.underlying251 hi hcmp hj
 go_enter Tryz.func92,Tryz.ntmps92
 go_wp2
 refine wp_loop_rounds 1 ?_
 rw[rounds_succ]
 go_wp2
 go_ret
 exact⟨rfl,rfl⟩
theorem is_nil (b:Addr) (w:World):
  Calls Tryz.prog 92 #[.nilIface,.iface 251 (.pointer (some b))] w fun e w'=>e=.returned (.bool false)/\w'=w:=by
 have hn:=run_eql_iface_nil_left (P:=Tryz.prog) w 251 (.pointer (some b)) Tryz.underlying86
 go_enter Tryz.func92,Tryz.ntmps92
 go_wp2
 go_ret
 exact⟨rfl,rfl⟩
theorem is_other (a b:Addr) (ca cb:Array Value) (ta tb:TypeId) (w:World) (hne:a≠b) (ha:w.heap[a.block]?=some (.cells ca ta (0,0))) (hb:w.heap[b.block]?=some (.cells cb tb (0,0))):
  Calls Tryz.prog 92 #[.iface 251 (.pointer (some a)),.iface 251 (.pointer (some b))] w fun e w'=>e=.returned (.bool false)/\w'=w:=by
 obtain⟨i,hi,hcmp⟩:=Option.map_eq_some_iff.1 isComp
 obtain⟨j,hj,hjs⟩:=Option.map_eq_some_iff.1 isSize
 have h8:= @run_callFunc_extern Tryz.prog 112 _ Extern.ReflectliteType.typeOf Tryz.func112 (by kernel_rfl) (by kernel_rfl) (by kernel_rfl) (by kernel_rfl)
 have h32:= @run_callFunc_extern Tryz.prog 213 _ (Extern.ReflectliteType.method fun t=>do Extern.Rtype.noPackHeld "Comparable" t;pure (.bool (←typeInfo t).comparable)) Tryz.func213 (by kernel_rfl) (by kernel_rfl) (by kernel_rfl) (by kernel_rfl)
 have tT:=isTypeOf
 have cT:=isComparable
 have mR:=isMethodComparable
 have nE:=noIsE
 have uE:=noUnwrapE
 have vE:=noUnwrapsE
 have heq:=run_eql_iface_ptr_other (P:=Tryz.prog) w Tryz.underlying86 Tryz.underlying251 hi hcmp hj (by rw[hjs];decide) hne ha hb
 go_enter Tryz.func92,Tryz.ntmps92
 go_wp2
 refine wp_loop_rounds 1 ?_
 rw[rounds_succ]
 go_wp2
 go_ret
 exact⟨rfl,rfl⟩
end Go.Proofs.YtkeilejbelblcaaGreatDoor
namespace Go.Proofs.YtkeilejbelblcaaGreatDoor
open Go.RowKit Go.Lib
def Sn (w:World) (n:Nat) (A:Nat->Addr):Prop:=
 (∀i,i<n->w.cell? (ad i 0)=some (.iface 251 (.pointer (some (A i)))))/\(∀i j,i<n->j<n->A i=A j->i=j)/\(∀i,i<n->∃c t,w.heap[(A i).block]?=some (.cells c t (0,0)))/\n<=w.heap.size
theorem Sn.mono {w w':World}{n M:Nat}{A:Nat->Addr}(h:Sn w n A) (hb:Below M w w') (hM:w.heap.size<=M):Sn w' n A:=by
 refine⟨fun i hi=>?_,h.2.1,fun i hi=>?_,Nat.le_trans h.2.2.2 hb.size⟩
 ·
  exact cell_keep (hb.mono hM) (by have :=h.2.2.2;omega) (h.1 i hi)
 ·
  obtain⟨c,t,e⟩:=h.2.2.1 i hi
  have hl:(A i).block<w.heap.size:=by
   by_cases c:(A i).block<w.heap.size
   ·
    exact c
   ·
    rw[Array.getElem?_eq_none (by omega)] at e
    cases e
  exact⟨c,t,(hb.block _ (by omega)).trans e⟩
theorem Sn.le {w:World}{n m:Nat}{A:Nat->Addr}(h:Sn w n A) (hm:m<=n):Sn w m A:=
 ⟨fun i hi=>h.1 i (by omega),fun i j hi hj=>h.2.1 i j (by omega) (by omega),fun i hi=>h.2.2.1 i (by omega),Nat.le_trans hm h.2.2.2⟩
def ErsR (w:World) (A:Nat->Addr) (n:Nat) (ix:Nat->Nat) (e:Ending) (w':World):Prop:=
 ∃b,∃vs:Array Value,e=.returned (.slice (some (ad b 0)) n n)/\Box w' b 86 vs/\(∀i,i<n->vs[i]?=some (.iface 251 (.pointer (some (A (ix i))))))/\Below w.heap.size w w'
set_option maxHeartbeats 1600000 in
theorem ers_ask {n:Nat}{A:Nat->Addr}(w:World) (h:Sn w n A) (hn:6<=n):
  Calls Tryz.prog 91 #[.int .i64 1] w fun e w'=>ErsR w A 6 (fun i=>#[0,1,2,3,4,5].getD i 0) e w':=by
 have c0:w.cell? (ad 0 0)=some (.iface 251 (.pointer (some (A 0)))):=h.1 0 (by omega)
 have c1:w.cell? (ad 1 0)=some (.iface 251 (.pointer (some (A 1)))):=h.1 1 (by omega)
 have c2:w.cell? (ad 2 0)=some (.iface 251 (.pointer (some (A 2)))):=h.1 2 (by omega)
 have c3:w.cell? (ad 3 0)=some (.iface 251 (.pointer (some (A 3)))):=h.1 3 (by omega)
 have c4:w.cell? (ad 4 0)=some (.iface 251 (.pointer (some (A 4)))):=h.1 4 (by omega)
 have c5:w.cell? (ad 5 0)=some (.iface 251 (.pointer (some (A 5)))):=h.1 5 (by omega)
 clear h
 go_enter Tryz.func91,Tryz.ntmps91
 go_wp2_with fail
 go_ret
 refine⟨w.heap.size,_,rfl,Box.new _ _ _,fun i hi=>?_,bel1 _ _⟩
 match i,hi with
 |0,_=>rfl
 |1,_=>rfl
 |2,_=>rfl
 |3,_=>rfl
 |4,_=>rfl
 |5,_=>rfl
set_option maxHeartbeats 1600000 in
theorem ers_back {n:Nat}{A:Nat->Addr}(w:World) (h:Sn w n A) (hn:7<=n):
  Calls Tryz.prog 91 #[.int .i64 2] w fun e w'=>ErsR w A 2 (fun i=>#[0,6].getD i 0) e w':=by
 have c0:w.cell? (ad 0 0)=some (.iface 251 (.pointer (some (A 0)))):=h.1 0 (by omega)
 have c6:w.cell? (ad 6 0)=some (.iface 251 (.pointer (some (A 6)))):=h.1 6 (by omega)
 clear h
 go_enter Tryz.func91,Tryz.ntmps91
 go_wp2_with fail
 go_ret
 refine⟨w.heap.size,_,rfl,Box.new _ _ _,fun i hi=>?_,bel1 _ _⟩
 match i,hi with
 |0,_=>rfl
 |1,_=>rfl
set_option maxHeartbeats 1600000 in
theorem ers_move {n:Nat}{A:Nat->Addr}(w:World) (h:Sn w n A) (hn:6<=n):
  Calls Tryz.prog 91 #[.int .i64 6] w fun e w'=>ErsR w A 3 (fun i=>#[0,4,5].getD i 0) e w':=by
 have c0:w.cell? (ad 0 0)=some (.iface 251 (.pointer (some (A 0)))):=h.1 0 (by omega)
 have c4:w.cell? (ad 4 0)=some (.iface 251 (.pointer (some (A 4)))):=h.1 4 (by omega)
 have c5:w.cell? (ad 5 0)=some (.iface 251 (.pointer (some (A 5)))):=h.1 5 (by omega)
 clear h
 go_enter Tryz.func91,Tryz.ntmps91
 go_wp2_with fail
 go_ret
 refine⟨w.heap.size,_,rfl,Box.new _ _ _,fun i hi=>?_,bel1 _ _⟩
 match i,hi with
 |0,_=>rfl
 |1,_=>rfl
 |2,_=>rfl
def erV (A:Nat->Addr):Option Nat->Value
 |none=>.nilIface
 |some g=>.iface 251 (.pointer (some (A g)))
def CodeIs (n:Nat) (ix:Nat->Nat) (o:Option Nat) (r:Nat):Prop:=
 ((∀i,i<n->o≠some (ix i))/\r=0)\/∃i,i<n/\o=some (ix i)/\(∀m,m<i->o≠some (ix m))/\r=i+1
theorem is94 {N:Nat}{A:Nat->Addr}(o:Option Nat) (g:Nat) (w:World) (h:Sn w N A) (hg:g<N) (ho:∀k,o=some k->k<N):
  Calls Tryz.prog 92 #[erV A o,.iface 251 (.pointer (some (A g)))] w fun e w'=>e=.returned (.bool (decide (o=some g)))/\w'=w:=by
 cases o with
 |none=>exact(is_nil (A g) w).mono fun e w' q=>⟨by simpa using q.1,q.2⟩
 |some k=>
  have hk:=ho k rfl
  by_cases c:k=g
  ·
   subst c
   exact(is_same (A k) w).mono fun e w' q=>⟨by simpa using q.1,q.2⟩
  ·
   obtain⟨c1,t1,e1⟩:=h.2.2.1 k hk
   obtain⟨c2,t2,e2⟩:=h.2.2.1 g hg
   exact(is_other (A k) (A g) c1 c2 t1 t2 w (fun e=>c (h.2.1 k g hk hg e)) e1 e2).mono fun e w' q=>⟨by simpa [c] using q.1,q.2⟩
set_option maxRecDepth 100000 in
set_option maxHeartbeats 3200000 in
theorem codeOf61 {N:Nat}{A:Nat->Addr}(n:Nat) (ix:Nat->Nat) (o:Option Nat) (r:Nat) (op:Int) (w:World) (hS:Sn w N A) (hn:n<=6) (hix:∀i,i<n->ix i<N) (ho:∀k,o=some k->k<N) (hc:CodeIs n ix o r) (hE:Calls Tryz.prog 91 #[.int .i64 op] w fun e w'=>ErsR w A n ix e w'):
  Calls Tryz.prog 56 #[erV A o,.int .i64 op] w fun e w'=>e=.returned (.int .i64 (r:Int))/\Below w.heap.size w w':=by
 have H:Hid (Sn w N A/\(∀i,i<n->ix i<N)/\(∀k,o=some k->k<N)/\CodeIs n ix o r):=⟨hS,hix,ho,hc⟩
 have HE:Hid (Calls Tryz.prog 91 #[.int .i64 op] w fun e w'=>ErsR w A n ix e w'):=hE
 clear hS hix ho hc hE
 obtain⟨v,HV⟩:∃v,Hid (erV A o=v):=⟨_,rfl⟩
 rw[HV.out]
 go_enter Tryz.func56,Tryz.ntmps56
 go_wp2_with fail
 refine HE.out.mono ?_
 rintro e w1 ⟨b,vs,rfl,hbx,hvs,hb⟩
 have T0:Hid (Below w.heap.size w w1/\Box w1 b 86 vs):=⟨hb,hbx⟩
 have HVS:Hid (∀i,i<n->vs[i]?=some (.iface 251 (.pointer (some (A (ix i)))))):=hvs
 clear hb hbx hvs
 go_wp2_with fail
 go_loopw [10] (fun c wr=>∃k:Nat,k<=n/\c=.int .i64 k/\Hid (∀m,m<k->o≠some (ix m))/\Hid (Below w.heap.size w wr/\Box wr b 86 vs)) (fun c _=>n-(intOf c).toNat)
 case atStart=>exact⟨0,Nat.zero_le _,rfl,fun j hj=>absurd hj (Nat.not_lt_zero _),T0⟩
 case round=>
  clear T0
  obtain⟨k,hk,rfl,HK,T⟩:=hrel
  by_cases hlt:k<n
  ·
   have hk0:(0:Int)<=(k:Int):=by omega
   have hkn:(k:Int)<(n:Int):=by omega
   have d0:wr.cell? (ad b k)=some (.iface 251 (.pointer (some (A (ix k))))):=(T.out.2.cell k).trans (HVS.out k hlt)
   go_wp2_with fail
   clear d0
   rw[<-HV.out]
   refine(is94 (N:=N) o (ix k) wr (H.out.1.mono T.out.1 nr) (H.out.2.1 k hlt) H.out.2.2.1).mono ?_
   rw[HV.out]
   rintro e wr2 ⟨he,hw⟩
   have hw:=hw.symm
   subst hw
   obtain⟨u,HU⟩:∃u,Hid (decide (o=some (ix k))=u):=⟨_,rfl⟩
   rw[HU.out] at he
   subst he
   cases u with
   |true=>
    have HT:Hid (r=k+1):=by
     have hu:o=some (ix k):=of_decide_eq_true HU.out
     rcases H.out.2.2.2 with⟨h1,_⟩|⟨i,h1,h2,h3,h4⟩
     ·
      exact absurd hu (h1 k hlt)
     ·
      rcases Nat.lt_trichotomy i k with h|h|h
      ·
       exact absurd h2 (HK.out i h)
      ·
       subst h
       exact h4
      ·
       exact absurd hu (h3 k h)
    go_wp2_with fail
    go_ret
    exact⟨by rw[HT.out];go_num,T.out.1⟩
   |false=>
    have HK2:Hid (∀m,m<k+1->o≠some (ix m)):=fun m hm=>by
     by_cases c:m=k
     ·
      subst c
      exact of_decide_eq_false HU.out
     ·
      exact HK.out m (by omega)
    go_wp2_with fail
    go_roundw
    case rel=>exact⟨k+1,by omega,by go_num,HK2,T⟩
    case measure=>simp[intOf];omega
  ·
   have HT:Hid (r=0):=by
    rcases H.out.2.2.2 with⟨_,h2⟩|⟨i,h1,h2,_,_⟩
    ·
     exact h2
    ·
     exact absurd h2 (HK.out i (by omega))
   have hge:¬((k:Int)<(n:Int)):=by omega
   go_wp2_with fail
   go_ret
   exact⟨by rw[HT.out];rfl,T.out.1⟩
end Go.Proofs.YtkeilejbelblcaaGreatDoor
