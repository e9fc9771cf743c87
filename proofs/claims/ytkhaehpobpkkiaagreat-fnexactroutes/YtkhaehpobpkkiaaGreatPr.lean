import Derived.Test.YtkhaehpobpkkiaaGreatRows
import Derived.OpenShut
import Derived.ShutString
import Derived.ChangeOld
import Derived.Below
import Derived.Test.YtkhaehpobpkkiaaGreatIj
import Derived.Test.YtkhaehpobpkkiaaGreatOp
namespace Go.Proofs.YtkhaehpobpkkiaaGreat
open Go.ChangeShapes Go.WideShapes Go.ChangeAt Go.RowKit Go.Deep Go.Joins
section
variable {H:Type} {enc:TypeId × Value→H} {w:World} {base:Nat} {spare:Nat→Bool} {held:Bool}
theorem cells67:Tryz.prog.cellsOf 49=4:=by kernel_rfl
theorem open_signal {n:Nat}{cs:List Value}{y:DataW H × List MemPlace}(h:DataW.trod enc Tryz.prog w base spare held n 49 cs=some y):
 ∃ p:Pc,cs=[.string p.nm,.int .i64 p.ln,.int .i64 p.sp,.int .i64 p.br]∧p.nm.size≤maxLen:=by
 obtain ⟨y0,y1,y2,y3,k,_,hl,h0,h1,h2,h3⟩:=trod_struct4 Tryz.underlying49 h
 obtain ⟨v0,v1,v2,v3,rfl⟩:=list4 (hl.trans cells67)
 simp only [cells9,cells3,List.drop_zero,List.drop_succ_cons,List.take_succ_cons,List.take_zero] at h0 h1 h2 h3
 obtain ⟨s,e0,_,hs⟩:=DataW.trod_string Tryz.underlying9 h0
 obtain ⟨a,e1,_,_⟩:=DataW.trod_int Tryz.underlying3 h1
 obtain ⟨b,e2,_,_⟩:=DataW.trod_int Tryz.underlying3 h2
 obtain ⟨c,e3,_,_⟩:=DataW.trod_int Tryz.underlying3 h3
 simp only [List.cons.injEq,and_true] at e0 e1 e2 e3
 exact ⟨⟨s,a,b,c⟩,by rw [e0,e1,e2,e3],hs⟩
theorem open_signals {fuel:Nat}{v:Value}{x:DataW H × List MemPlace}(h:DataW.trod enc Tryz.prog w base spare held fuel 26 [v]=some x):
 ∃ (a:Option Addr) (n cap:Nat) (P:Nat→Pc),v=.slice a n cap∧n≤maxLen∧PsAt 0 w a n P∧∀ i,i<n→(P i).nm.size≤maxLen:=by
 rcases open_slice Tryz.underlying26 h with ⟨hcs,_⟩ | ⟨a,len,cap,m,k,D,Pl,hcs,_,hl,hm,hmm,_,hel⟩
 ·simp only [List.cons.injEq,and_true] at hcs
  exact ⟨none,0,0,fun _=>⟨ByteArray.empty,0,0,0⟩,hcs,by simp [maxLen],fun h=>absurd h (by omega),fun i hi=>absurd hi (by omega)⟩
 ·simp only [List.cons.injEq,and_true] at hcs
  have hlm:len≤m:=by rw [hmm];split <;> omega
  rw [cells67] at hel
  obtain ⟨P,hP⟩:=@choose_lt Pc ⟨⟨ByteArray.empty,0,0,0⟩⟩ len (fun i p=>(w.cells? base (a.add (i*4)) 4=some [.string p.nm,.int .i64 p.ln,.int .i64 p.sp,.int .i64 p.br])∧p.nm.size≤maxLen) (fun i hi=>by
   obtain ⟨cs',h1,h2⟩:=hel i (by omega)
   obtain ⟨p,rfl,hp⟩:=open_signal h2
   exact ⟨p,h1,hp⟩)
  refine ⟨some a,len,cap,P,hcs,by omega,fun h0=>?_,fun i hi=>(hP i hi).2⟩
  obtain ⟨b,off,sp⟩:=a
  have hs:sp=none:=by
   have h1:=(hP 0 h0).1
   rw [Nat.zero_mul] at h1
   exact spot_none h1
  subst hs
  have hcell:∀ i,i<len→w.cell? ⟨b,off+i*4,none⟩=some (.string (P i).nm)∧w.cell? ⟨b,off+i*4+1,none⟩=some (.int .i64 (P i).ln)∧
   w.cell? ⟨b,off+i*4+2,none⟩=some (.int .i64 (P i).sp)∧w.cell? ⟨b,off+i*4+3,none⟩=some (.int .i64 (P i).br):=fun i hi=>by
   obtain ⟨_,_,hc⟩:=World.cells?_some (hP i hi).1
   rw [add_none] at hc
   have g0:=hc 0 (by omega)
   have g1:=hc 1 (by omega)
   have g2:=hc 2 (by omega)
   have g3:=hc 3 (by omega)
   rw [add_none] at g0 g1 g2 g3
   exact ⟨g0,g1,g2,g3⟩
  exact ⟨b,off,rfl,Nat.zero_le _,World.block_lt_of_cell? w _ (hcell 0 h0).1,hcell⟩
end
set_option maxRecDepth 100000 in
theorem open_intV {H:Type}{enc:TypeId × Value→H}{w:World}{base:Nat}{spare:Nat→Bool}{held:Bool}{r:Reach}{b0:Nat}{v:Value}{d:DataW H}{p:List MemPlace}(hv:Value.okWide Tryz.prog w r b0 3 v)(_h:DataW.Trod enc Tryz.prog w base spare held 3 v d p):∃ x:Int,v=.int .i64 x:=by
 exact okWide_int Tryz.underlying3 hv
theorem own:ownKnob Tryz.prog.godebug=none:=by kernel_rfl
theorem laidOut:laidOutB Tryz.prog=true:=by kernel_rfl
set_option maxRecDepth 100000 in
theorem routesLifted (os:Os)(started:os.Started)(H:Type)(enc:TypeId × Value→H):
 ReturnsInHanded {} Tryz.checked os 3 .any (Rows.fnExactRoutesSpec.pre6 enc Tryz.prog Tryz.f3 Rows.fnExactRoutesRow.domain false) (Rows.fnExactRoutesSpec.post enc Tryz.prog Tryz.f3 false true false false):=by
 refine returnsInHanded_of_change (C:=Tryz.checked) own started (by kernel_rfl) Tryz.func3
  (ChangeSpec.witness6 (enc:=enc) (C:=Tryz.checked) false ⟨#[],#[.agg #[.slice none 0 0,.slice none 0 0],.slice none 0 0,.int .i64 0],[]⟩ 8 (by kernel_rfl) (by kernel_rfl) (by kernel_rfl) (by kernel_rfl)) ?_
 intro W base args ds gs before hval0 hW hcnd _
 have hval:∀ (j:Nat) t v,Tryz.f3.params[j]?=some t→args[j]?=some v→Value.okWide Tryz.prog W .any base t v:=hval0
 have hW':=hW
 obtain ⟨p,q,hA0,hV,rfl,hfz,hnd⟩:=hW
 have hA:DataW.TrodAll enc Tryz.prog W 0 (fun _=>true) true Tryz.f3.params.toList args.toList ds p:=hA0
 rw [Tryz.params3] at hA hval
 obtain ⟨v0,vs0,d0,ds0,p0,q0,hargs,rfl,rfl,h0,r0⟩:=trodAll_cons hA
 obtain ⟨v1,vs1,d1,ds1,p1,q1,rfl,rfl,rfl,h1,r1⟩:=trodAll_cons r0
 obtain ⟨v2,vs2,d2,ds2,p2,q2,rfl,rfl,rfl,h2,r2⟩:=trodAll_cons r1
 obtain ⟨rfl,rfl,rfl⟩:=trodAll_nil r2
 obtain rfl:args=#[v0,v1,v2]:=by cases args;simp_all
 obtain ⟨rfl,rfl⟩:=trodVars_none hV
 have k0:=h0
 have k1:=h1
 have k2:=h2
 have lt0:∀ x ∈ p0,x.block<W.heap.size:=by obtain ⟨m,hm⟩:=k0;exact DataW.trod_lt m _ _ _ hm
 have lt2:∀ x ∈ p2,x.block<W.heap.size:=by obtain ⟨m,hm⟩:=k2;exact DataW.trod_lt m _ _ _ hm
 have lt1:∀ x ∈ p1,x.block<W.heap.size:=by obtain ⟨m,hm⟩:=k1;exact DataW.trod_lt m _ _ _ hm
 obtain ⟨x0,x1,y0,y1,fu,rfl,_,_,g0,g1⟩:=open_agg2 Tryz.underlying25 (by kernel_rfl) cells25 (hval 0 25 v0 rfl rfl) h0
 obtain ⟨pa,n,pc,P,rfl,hn,hP,hps⟩:=open_pieces g0
 obtain ⟨ja,m,jc,J,rfl,hm,hJ,hjs⟩:=open_joints g1
 obtain ⟨a1,len1,cap1,rfl⟩:=okWide_slice Tryz.underlying26 (hval 1 26 v1 rfl rfl)
 obtain ⟨fu1,hf1⟩:=h1
 obtain ⟨sa,k,sc,S,hse,hk,hS,hss⟩:=open_signals (by simpa [Value.cells] using hf1)
 simp only [Value.slice.injEq] at hse
 obtain ⟨rfl,rfl,rfl⟩:=hse
 obtain ⟨ov,rfl⟩:=open_intV (hval 2 3 v2 rfl rfl) h2
 clear hA0 hval0
 refine (law3 pa n pc P ja m jc J a1 len1 cap1 S ov W hn hm hk hP hJ hS hps hjs hss).mono fun e W' ⟨he,bel⟩=>?_
 subst he
 exact ⟨_,rfl,_,_,_,[],_,[],hW',trodAll_mk1 (shut_bool Tryz.underlying4 _),(trodAll_cons_mk (Below.trod laidOut (by kernel_rfl) (of_decide_eq_true (by kernel_rfl)) k0 bel lt0) (trodAll_cons_mk (Below.trod laidOut (by kernel_rfl) (of_decide_eq_true (by kernel_rfl)) k1 bel lt1) (trodAll_cons_mk (Below.trod laidOut (by kernel_rfl) (of_decide_eq_true (by kernel_rfl)) k2 bel lt2) trodAll_mk0))),rfl,bel.frame _,fun h=>by cases h⟩
theorem routesOver:Rows.fnExactRoutesRow.holds Tryz.pinned (OpenSpec.ofChange Rows.fnExactRoutesSpec):=
 OpenClaim.holds_of_wide 3 Tryz.f3 rfl rfl rfl rfl rfl rfl rfl ⟨rfl,rfl,rfl,rfl,rfl⟩ rfl rfl rfl rfl rfl (by kernel_rfl) Tryz.func3 (by kernel_rfl)
  (of_decide_eq_true (by kernel_rfl)) (by unfold Func.isWrapper;first | (rw [if_pos (by decide +kernel)];kernel_rfl) | (rw [if_neg (by decide +kernel)];exact ⟨rfl,rfl⟩))
  (fun os started H enc _=>routesLifted os started H enc)
theorem fnExactRoutes_proved:Rows.FnExactRoutesSaid:=routesOver
#print axioms fnExactRoutes_proved
end Go.Proofs.YtkhaehpobpkkiaaGreat
