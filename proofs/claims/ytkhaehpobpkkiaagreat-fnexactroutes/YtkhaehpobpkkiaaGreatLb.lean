import Derived.ArgAppend
import Derived.Laws.AppendOwnNone
import Derived.Test.YtkhaehpobpkkiaaGreatLa
namespace Go.Proofs.YtkhaehpobpkkiaaGreat
open Go.RowKit
abbrev Rw:=List Int
def cellsL (l:List Rw):List Value:=l.flatten.map (Value.int .i64)
def Wide (c:Nat)(l:List Rw):Prop:=∀ r,r ∈ l→r.length=c
def fnL (l:List Rw)(i j:Nat):Int:=(l.getD i []).getD j 0
theorem Wide.nil (c:Nat):Wide c []:=fun _ h=>absurd h (List.not_mem_nil)
theorem Wide.app {c:Nat}{l k:List Rw}(h:Wide c l)(h':Wide c k):Wide c (l ++ k):=fun r hr=>(List.mem_append.1 hr).elim (h r) (h' r)
theorem Wide.one {c:Nat}{r:Rw}(h:r.length=c):Wide c [r]:=fun x hx=>by rw [List.mem_singleton.1 hx];exact h
theorem Wide.left {c:Nat}{l k:List Rw}(h:Wide c (l ++ k)):Wide c l:=fun r hr=>h r (List.mem_append.2 (.inl hr))
theorem flat_len {c:Nat}{l:List Rw}(h:Wide c l):l.flatten.length=l.length*c:=by
 induction l with
 | nil=>simp
 | cons r l ih=>
  have h1:=h r (by simp)
  have h2:=ih (fun x hx=>h x (by simp [hx]))
  simp only [List.flatten_cons,List.length_append,List.length_cons,h1,h2,Nat.add_mul,Nat.one_mul]
  omega
theorem cellsL_len {c:Nat}{l:List Rw}(h:Wide c l):(cellsL l).length=l.length*c:=by rw [cellsL,List.length_map,flat_len h]
theorem cellsL_app (l k:List Rw):cellsL (l ++ k)=cellsL l ++ cellsL k:=by simp [cellsL]
theorem flat_at {c:Nat}{l:List Rw}(h:Wide c l){i j:Nat}(hi:i<l.length)(hj:j<c):l.flatten[i*c+j]?=some (fnL l i j):=by
 induction l generalizing i with
 | nil=>simp at hi
 | cons r l ih=>
  have h1:=h r (by simp)
  have h2:Wide c l:=fun x hx=>h x (by simp [hx])
  cases i with
  | zero=>
   simp only [List.flatten_cons,Nat.zero_mul,Nat.zero_add,fnL,List.getD_cons_zero]
   rw [List.getElem?_append_left (by omega),List.getD_eq_getElem?_getD,List.getElem?_eq_getElem (by omega)]
   rfl
  | succ i=>
   simp only [List.flatten_cons,fnL,List.getD_cons_succ]
   rw [List.getElem?_append_right (by rw [h1,Nat.succ_mul];omega),h1,show (i+1)*c+j-c=i*c+j by rw [Nat.succ_mul];omega]
   exact ih h2 (by simpa using hi)
theorem cellsL_at {c:Nat}{l:List Rw}(h:Wide c l){i j:Nat}(hi:i<l.length)(hj:j<c):(cellsL l)[i*c+j]?=some (.int .i64 (fnL l i j)):=by
 rw [cellsL,List.getElem?_map,flat_at h hi hj];rfl
theorem fnL_row {l:List Rw}{i:Nat}{r:Rw}(h:l[i]?=some r)(j:Nat):fnL l i j=r.getD j 0:=by simp [fnL,List.getD_eq_getElem?_getD,h]
theorem fnL_left {l k:List Rw}{i:Nat}(h:i<l.length)(j:Nat):fnL (l ++ k) i j=fnL l i j:=by simp [fnL,List.getD_eq_getElem?_getD,List.getElem?_append_left h]
theorem fnL_last (l:List Rw)(r:Rw)(j:Nat):fnL (l ++ [r]) l.length j=r.getD j 0:=by simp [fnL,List.getD_eq_getElem?_getD]
def LsAt (c C:Nat)(w:World)(v:Value)(l:List Rw):Prop:=Wide c l∧((v=.slice none 0 0∧l=[]) ∨
 ∃ b off cap,v=.slice (some ⟨b,off,none⟩) l.length cap∧C≤b∧b<w.heap.size∧∀ j u,(cellsL l)[j]?=some u→w.cell? ⟨b,off+j,none⟩=some u)
theorem LsAt.val {c C:Nat}{w:World}{v:Value}{l:List Rw}(h:LsAt c C w v l):∃ a cap,v=.slice a l.length cap∧NsAt c C w a l.length (fnL l):=by
 obtain ⟨hw,⟨rfl,rfl⟩ | ⟨b,off,cap,rfl,h1,h2,h3⟩⟩:=h
 ·exact ⟨none,0,rfl,fun h0=>absurd h0 (by simp)⟩
 ·exact ⟨_,cap,rfl,fun _=>⟨b,off,rfl,h1,h2,fun i hi j hj=>by rw [Nat.add_assoc];exact h3 _ _ (cellsL_at hw hi hj)⟩⟩
def Own (B:Nat)(e:TypeId)(c:Nat)(w:World)(v:Value)(l:List Rw):Prop:=Wide c l∧w.ownsRow B e c v l.length (cellsL l)
theorem LsAt.keep {c C C':Nat}{w w':World}{v:Value}{l:List Rw}(h:LsAt c C w v l)(hC:C'≤C)(hs:w.heap.size≤w'.heap.size)(hk:∀ b,v.ownBlock=some b→w'.heap[b]?=w.heap[b]?):LsAt c C' w' v l:=by
 obtain ⟨hw,h1 | ⟨b,off,cap,rfl,h1,h2,h3⟩⟩:=h
 ·exact ⟨hw,.inl h1⟩
 ·exact ⟨hw,.inr ⟨b,off,cap,rfl,by omega,by omega,fun j u hj=>(World.cell?_of_block (w:=w) (hk b rfl)).trans (h3 j u hj)⟩⟩
theorem LsAt.mono {c C C':Nat}{w w':World}{v:Value}{l:List Rw}{B:Nat}(h:LsAt c C w v l)(hC:C'≤C)(hb:Below B w w')(hB:w.heap.size≤B):LsAt c C' w' v l:=by
 refine h.keep hC hb.size fun b hv=>hb.block b ?_
 obtain ⟨_,⟨rfl,_⟩ | ⟨b',off,cap,rfl,h1,h2,h3⟩⟩:=h
 ·simp [Value.ownBlock] at hv
 ·simp only [Value.ownBlock,Option.some.injEq] at hv
  omega
theorem Own.nil (B:Nat)(e:TypeId)(c:Nat)(w:World):Own B e c w (.slice none 0 0) []:=⟨Wide.nil c,by simpa [cellsL] using World.ownsRow_nil w B e c⟩
theorem Own.shape {B:Nat}{e:TypeId}{c:Nat}{w:World}{v:Value}{l:List Rw}(h:Own B e c w v l):
 (v=.slice none 0 0∧l=[])∨∃ g cap cur,v=.slice (some ⟨g,0,none⟩) l.length cap∧B≤g∧w.heap[g]?=some (.cells cur e (0,0))∧l.length≤cap∧cap≤maxLen∧cur.size=cap*c∧cur.toList.take (l.length*c)=cellsL l:=by
 obtain ⟨_,_,⟨h1,h2⟩ | ⟨g,cap,cur,h1,h2,h3,h4,h5,h6,h7⟩⟩:=h
 ·exact .inl ⟨h1,List.length_eq_zero_iff.1 h2⟩
 ·exact .inr ⟨g,cap,cur,h1,h2,h3,h4,h5,h6,h7⟩
theorem Own.cells {B:Nat}{e:TypeId}{c:Nat}{w:World}{l:List Rw}{g cap:Nat}(h:Own B e c w (.slice (some ⟨g,0,none⟩) l.length cap) l):
 g<w.heap.size∧∀ j u,(cellsL l)[j]?=some u→w.cell? ⟨g,j,none⟩=some u:=by
 rcases h.shape with ⟨h1,_⟩ | ⟨g',cap',cur,h1,h2,h3,h4,h5,h6,h7⟩
 ·simp at h1
 ·simp only [Value.slice.injEq,Option.some.injEq,Addr.mk.injEq] at h1
  obtain ⟨⟨rfl,_⟩,_,rfl⟩:=h1
  refine ⟨(Array.getElem?_eq_some_iff.1 h3).1,fun j u hj=>?_⟩
  have hl:j<l.length*c:=by rw [← cellsL_len h.1];exact (List.getElem?_eq_some_iff.1 hj).1
  rw [← h7,List.getElem?_take_of_lt hl] at hj
  simp only [World.cell?,h3]
  simpa using hj
theorem Own.ls {B:Nat}{e:TypeId}{c:Nat}{w:World}{v:Value}{l:List Rw}(h:Own B e c w v l):LsAt c B w v l:=by
 refine ⟨h.1,?_⟩
 rcases h.shape with h1 | ⟨g,cap,cur,rfl,h2,_⟩
 ·exact .inl h1
 ·exact .inr ⟨g,0,cap,rfl,h2,h.cells.1,fun j u hj=>by rw [Nat.zero_add];exact h.cells.2 j u hj⟩
theorem Own.val {B:Nat}{e:TypeId}{c:Nat}{w:World}{v:Value}{l:List Rw}(h:Own B e c w v l):∃ a cap,v=.slice a l.length cap:=by
 obtain ⟨a,cap,h1,_⟩:=h.ls.val
 exact ⟨a,cap,h1⟩
theorem Own.keep {B B':Nat}{e:TypeId}{c:Nat}{w w':World}{v:Value}{l:List Rw}(h:Own B e c w v l)(hB:B'≤B)(hk:∀ g,v.ownBlock=some g→w'.heap[g]?=w.heap[g]?):Own B' e c w' v l:=by
 refine ⟨h.1,h.2.1,?_⟩
 rcases h.shape with ⟨rfl,rfl⟩ | ⟨g,cap,cur,rfl,h2,h3,h4⟩
 ·exact .inl ⟨rfl,rfl⟩
 ·exact .inr ⟨g,cap,cur,rfl,by omega,by rw [hk g rfl];exact h3,h4⟩
theorem Own.lt {B:Nat}{e:TypeId}{c:Nat}{w:World}{v:Value}{l:List Rw}(h:Own B e c w v l){g:Nat}(hg:v.ownBlock=some g):B≤g∧g<w.heap.size:=by
 rcases h.shape with ⟨rfl,rfl⟩ | ⟨g',cap,cur,rfl,h2,h3,h4⟩
 ·simp [Value.ownBlock] at hg
 ·simp only [Value.ownBlock,Option.some.injEq] at hg
  subst hg
  exact ⟨h2,(Array.getElem?_eq_some_iff.1 h3).1⟩
theorem Own.mono {B B':Nat}{e:TypeId}{c:Nat}{w w':World}{v:Value}{l:List Rw}{N:Nat}(h:Own B e c w v l)(hB:B'≤B)(hb:Below N w w')(hN:w.heap.size≤N):Own B' e c w' v l:=
 h.keep hB fun g hg=>hb.block g (by have:=(h.lt hg).2;omega)
theorem Own.ne {B B':Nat}{e e':TypeId}{c c':Nat}{w:World}{v v':Value}{l l':List Rw}(h:Own B e c w v l)(h':Own B' e' c' w v' l')(hne:e≠e'){g:Nat}(hg:v.ownBlock=some g):v'.ownBlock≠some g:=by
 intro hg'
 rcases h.shape with ⟨rfl,rfl⟩ | ⟨g1,cap,cur,rfl,h2,h3,h4⟩
 ·simp [Value.ownBlock] at hg
 ·rcases h'.shape with ⟨rfl,rfl⟩ | ⟨g2,cap',cur',rfl,k2,k3,k4⟩
  ·simp [Value.ownBlock] at hg'
  ·simp only [Value.ownBlock,Option.some.injEq] at hg hg'
   subst hg
   subst hg'
   rw [h3] at k3
   simp only [Option.some.injEq,Obj.cells.injEq] at k3
   exact hne k3.2.1
structure Appd (w w':World)(v v':Value):Prop where
 fr:w.grownBy w' v.ownBlock
 nb:(∃ g n n' cap,v=.slice (some ⟨g,0,none⟩) n cap∧v'=.slice (some ⟨g,0,none⟩) n' cap)∨(w.grownBy w' none∧∃ g,v'.ownBlock=some g∧w.heap.size≤g)
theorem one_int (l:List Rw):∀ u,u ∈ cellsL l→u.oneCell'=true:=fun u hu=>by
 obtain ⟨x,_,rfl⟩:=List.mem_map.1 hu
 rfl
theorem Own.short {B:Nat}{e:TypeId}{c:Nat}{w:World}{l k:List Rw}{g cap:Nat}(h:Own B e c w (.slice (some ⟨g,0,none⟩) (l ++ k).length cap) (l ++ k)):Own B e c w (.slice (some ⟨g,0,none⟩) l.length cap) l:=by
 have hw:=h.1.left
 rcases h.shape with ⟨h1,_⟩ | ⟨g',cap',cur,h1,h2,h3,h4,h5,h6,h7⟩
 ·simp at h1
 ·simp only [Value.slice.injEq,Option.some.injEq,Addr.mk.injEq] at h1
  obtain ⟨⟨rfl,_⟩,_,rfl⟩:=h1
  refine ⟨hw,cellsL_len hw,.inr ⟨g,cap,cur,rfl,h2,h3,by simp at h4;omega,h5,h6,?_⟩⟩
  have:(cur.toList.take ((l ++ k).length*c)).take (l.length*c)=(cellsL (l ++ k)).take (l.length*c):=by rw [h7]
  rw [List.take_take,cellsL_app,List.take_append_of_le_length (by rw [cellsL_len hw];exact Nat.le_refl _),Nat.min_eq_left (Nat.mul_le_mul_right c (by simp)),← cellsL_len hw,List.take_length] at this
  rwa [← cellsL_len hw]
theorem wpList_app {P:Program}(w:World){ops:Array Oper}{rest:List Oper}{o:Oper}{a:Act}{Q:Exit→Act→World→Prop}(hgd:o.guard=none)(s x:Operand)(t:TypeId)
 (ho:o.op=.call { callee:=.builtin .append,args:=#[s,x],argTypes:=#[t,t] })
 (B:Nat) (e:TypeId) (i:TypeInfo) (z:Value) (c bytes:Nat) (ht:P.underlying t=some (.slice e)) (hi:P.info? e=some i) (hz:i.zero=some z)
 (hsize:i.size=c) (hby:i.bytes=bytes) (hzs:z.cells.size=c) (hsz:0<c)
 (v:Value) (l:List Rw) (hs:a.eval s=v) (hown:Own B e c w v l)
 (ad:Addr) (m cc:Nat) (news:List Rw) (hx:a.eval x=.slice (some ad) m cc) (hm:news.length=m) (h0:0<m) (hw:Wide c news) (hnews:∀ j u,(cellsL news)[j]?=some u→w.cell? (ad.add j)=some u)
 (h63:l.length+m≤maxLen) (hbytes:(l.length+m)*bytes≤140737488355328) (hbase:B≤w.heap.size)
 (h:∀ v' w',Own B e c w' v' (l ++ news)→Own B e c w' v l→Appd w w' v v'→wpList P ops Q rest (a.put o.dst v') w'):wpList P ops Q (o :: rest) a w:=by
 have hln:(cellsL news).length=m*c:=by rw [cellsL_len hw,hm]
 rcases hown.shape with ⟨hv,hl⟩ | ⟨g,cap,cur,hv,h2,h3,h4,h5,h6,h7⟩
 ·subst hl
  rw [hv] at hs
  refine wpList_append_grows w hgd s x t ho e i z c bytes ht hi hz hsize hby hzs hsz none 0 0 [] hs (fun _=>⟨rfl,rfl⟩) (by simp) (fun b hb=>by cases hb) ad m cc (cellsL news) hx hln hnews (one_int _) (by omega) (by simpa using h63) (by simpa using hbytes) ?_
  intro v' w' ho' hg'
  have ho2:Own B e c w' v' ([] ++ news):=⟨by simpa using hw,by
   have:w'.ownsRow w.heap.size e c v' (0+m) ([] ++ cellsL news):=ho'
   rw [List.nil_append,Nat.zero_add] at this
   rw [List.nil_append,hm]
   obtain ⟨q1,q2⟩:=this
   refine ⟨q1,?_⟩
   rcases q2 with q2 | ⟨g,cap,cur,r1,r2,r3⟩
   ·exact .inl q2
   ·exact .inr ⟨g,cap,cur,r1,by omega,r3⟩⟩
  refine h v' w' ho2 ?_ ⟨?_,.inr ⟨hg',?_⟩⟩
  ·rw [hv];exact Own.nil _ _ _ _
  ·rw [hv];exact hg'
  ·obtain ⟨_,⟨q1,q2⟩ | ⟨g,cap,cur,r1,r2,r3⟩⟩:=ho'
   ·omega
   ·exact ⟨g,by rw [r1];rfl,r2⟩
 ·by_cases hc:l.length+m≤cap
  ·rw [hv] at hs
   refine wpList_append_fits w hgd s x t ho B e i c ht hi hsize g l.length cap (cellsL l) hs (by rw [← hv];exact hown.2) ad m cc (cellsL news) hx hln hnews (one_int _) hc ?_
   intro w' ho' hg'
   have ho2:Own B e c w' (.slice (some ⟨g,0,none⟩) (l ++ news).length cap) (l ++ news):=⟨hown.1.app hw,by rw [cellsL_app,List.length_append,hm];exact ho'⟩
   have:=h (.slice (some ⟨g,0,none⟩) (l ++ news).length cap) w' ho2 (by rw [hv];exact ho2.short) ⟨by rw [hv];exact hg',.inl ⟨g,_,_,cap,hv,rfl⟩⟩
   rwa [List.length_append,hm] at this
  ·rw [hv] at hs
   have hcs:=(show Own B e c w (.slice (some ⟨g,0,none⟩) l.length cap) l by rw [← hv];exact hown).cells
   refine wpList_append_grows w hgd s x t ho e i z c bytes ht hi hz hsize hby hzs hsz (some ⟨g,0,none⟩) l.length cap (cellsL l) hs (fun q=>by cases q) (cellsL_len hown.1) (fun b hb j u hj=>?_) ad m cc (cellsL news) hx hln hnews (one_int _) (by omega) h63 hbytes ?_
   ·simp only [Option.some.injEq] at hb
    subst hb
    have h9:=hcs.2 j u hj
    by_cases hj0:j=0
    ·subst hj0;simpa [Addr.add] using h9
    ·simpa [Addr.add,hj0] using h9
   ·intro v' w' ho' hg'
    have ho2:Own B e c w' v' (l ++ news):=⟨hown.1.app hw,by
     rw [cellsL_app,List.length_append,hm]
     obtain ⟨q1,q2⟩:=ho'
     refine ⟨q1,?_⟩
     rcases q2 with q2 | ⟨g,cap,cur,r1,r2,r3⟩
     ·exact .inl q2
     ·exact .inr ⟨g,cap,cur,r1,by omega,r3⟩⟩
    refine h v' w' ho2 (hown.keep lr fun g' hg1=>hg'.block g' ((hown.lt hg1).2) (by simp)) ⟨⟨hg'.os,hg'.tape,hg'.output,hg'.size,fun k hk _=>hg'.block k hk (by simp)⟩,.inr ⟨hg',?_⟩⟩
    obtain ⟨_,⟨q1,q2⟩ | ⟨g,cap,cur,r1,r2,r3⟩⟩:=ho'
    ·omega
    ·exact ⟨g,by rw [r1];rfl,r2⟩
theorem run_app {P:Program}(w:World)(t ty:TypeId)
 (B:Nat) (e:TypeId) (i:TypeInfo) (z:Value) (c bytes:Nat) (ht:P.underlying t=some (.slice e)) (hi:P.info? e=some i) (hz:i.zero=some z)
 (hsize:i.size=c) (hby:i.bytes=bytes) (hzs:z.cells.size=c) (hsz:0<c)
 (v:Value) (l:List Rw) (hown:Own B e c w v l)
 (ad:Addr) (m cc:Nat) (news:List Rw) (hm:news.length=m) (h0:0<m) (hw:Wide c news) (hnews:∀ j u,(cellsL news)[j]?=some u→w.cell? (ad.add j)=some u)
 (h63:l.length+m≤maxLen) (hbytes:(l.length+m)*bytes≤140737488355328) (hbase:B≤w.heap.size):
 ∃ v' w',(Builtin.append_ #[t,t] ty #[v,.slice (some ad) m cc]).run P w=.ok v' w'∧Own B e c w' v' (l ++ news)∧Own B e c w' v l∧Appd w w' v v':=by
 have hln:(cellsL news).length=m*c:=by rw [cellsL_len hw,hm]
 rcases hown.shape with ⟨hv,hl⟩ | ⟨g,cap,cur,hv,h2,h3,h4,h5,h6,h7⟩
 ·subst hl
  subst hv
  obtain ⟨v',w',hrun,ho',hg',_⟩:=run_append_own (P:=P) w w.heap.size t ty e i z c bytes ht hi hz hsize hby hzs hsz (.slice none 0 0) 0 [] (World.ownsRow_nil w _ e c) ad m cc (cellsL news) hln hnews (one_int _) (by simpa using h63) (by simpa using hbytes) lr
  have ho2:Own B e c w' v' ([] ++ news):=⟨by simpa using hw,by
   have:w'.ownsRow w.heap.size e c v' (0+m) ([] ++ cellsL news):=ho'
   rw [List.nil_append,Nat.zero_add] at this
   rw [List.nil_append,hm]
   obtain ⟨q1,q2⟩:=this
   refine ⟨q1,?_⟩
   rcases q2 with q2 | ⟨g,cap,cur,r1,r2,r3⟩
   ·exact .inl q2
   ·exact .inr ⟨g,cap,cur,r1,by omega,r3⟩⟩
  refine ⟨v',w',hrun,ho2,Own.nil _ _ _ _,hg',.inr ⟨hg',?_⟩⟩
  obtain ⟨_,⟨q1,q2⟩ | ⟨g,cap,cur,r1,r2,r3⟩⟩:=ho'
  ·omega
  ·exact ⟨g,by rw [r1];rfl,r2⟩
 ·subst hv
  by_cases hc:l.length+m≤cap
  ·obtain ⟨w',hrun,ho',hg'⟩:=run_append_fits (P:=P) w B t ty e i c ht hi hsize g l.length cap (cellsL l) hown.2 ad m cc (cellsL news) hln hnews (one_int _) hc
   have ho2:Own B e c w' (.slice (some ⟨g,0,none⟩) (l ++ news).length cap) (l ++ news):=⟨hown.1.app hw,by rw [cellsL_app,List.length_append,hm];exact ho'⟩
   refine ⟨.slice (some ⟨g,0,none⟩) (l ++ news).length cap,w',by rw [List.length_append,hm];exact hrun,ho2,ho2.short,hg',.inl ⟨g,_,_,cap,rfl,rfl⟩⟩
  ·have hcs:=hown.cells
   obtain ⟨v',w',hrun,ho',hg'⟩:=run_append_arg_grows (P:=P) w t ty e i z c bytes ht hi hz hsize hby hzs hsz ⟨g,0,none⟩ l.length cap (cellsL l) (cellsL_len hown.1) (fun j u hj=>by
    have h9:=hcs.2 j u hj
    by_cases hj0:j=0
    ·subst hj0;simpa [Addr.add] using h9
    ·simpa [Addr.add,hj0] using h9) ad m cc (cellsL news) hln hnews (by omega) h63 hbytes
   have ho2:Own B e c w' v' (l ++ news):=⟨hown.1.app hw,by
    rw [cellsL_app,List.length_append,hm]
    obtain ⟨q1,q2⟩:=ho'
    refine ⟨q1,?_⟩
    rcases q2 with q2 | ⟨g,cap,cur,r1,r2,r3⟩
    ·exact .inl q2
    ·exact .inr ⟨g,cap,cur,r1,by omega,r3⟩⟩
   refine ⟨v',w',hrun,ho2,hown.keep lr fun g' hg1=>hg'.block g' ((hown.lt hg1).2) (by simp),⟨hg'.os,hg'.tape,hg'.output,hg'.size,fun k hk _=>hg'.block k hk (by simp)⟩,.inr ⟨hg',?_⟩⟩
   obtain ⟨_,⟨q1,q2⟩ | ⟨g,cap,cur,r1,r2,r3⟩⟩:=ho'
   ·omega
   ·exact ⟨g,by rw [r1];rfl,r2⟩
theorem step_app {P:Program}{ops:Array Oper}{o:Oper}{a:Act}{w:World}{K:Act→World→Prop}{Q:Exit→Act→World→Prop}{E:Prop}(hgd:o.guard=none)(s x:Operand)(t:TypeId)
 (ho:o.op=.call { callee:=.builtin .append,args:=#[s,x],argTypes:=#[t,t] })
 (B:Nat) (e:TypeId) (i:TypeInfo) (z:Value) (c bytes:Nat) (ht:P.underlying t=some (.slice e)) (hi:P.info? e=some i) (hz:i.zero=some z)
 (hsize:i.size=c) (hby:i.bytes=bytes) (hzs:z.cells.size=c) (hsz:0<c)
 (v:Value) (l:List Rw) (hs:a.eval s=v) (hown:Own B e c w v l)
 (ad:Addr) (m cc:Nat) (news:List Rw) (hx:a.eval x=.slice (some ad) m cc) (hm:news.length=m) (h0:0<m) (hw:Wide c news) (hnews:∀ j u,(cellsL news)[j]?=some u→w.cell? (ad.add j)=some u)
 (h63:l.length+m≤maxLen) (hbytes:(l.length+m)*bytes≤140737488355328) (hbase:B≤w.heap.size)
 (h:∀ v' w',Own B e c w' v' (l ++ news)→Own B e c w' v l→Appd w w' v v'→K (a.put o.dst v') w'):
 if Region.wanted o (yielded ops a.tmps)=true then Oper.wp P o a w K Q else E:=by
 have hwt:Region.wanted o (yielded ops a.tmps)=true:=by simp [Region.wanted,hgd]
 rw [if_pos hwt]
 obtain ⟨v',w',hrun,r1,r2,r3⟩:=run_app (P:=P) w t o.type B e i z c bytes ht hi hz hsize hby hzs hsz v l hown ad m cc news hm h0 hw hnews h63 hbytes hbase
 unfold Oper.wp
 simp [execOp,ho,resolve,invoke,builtin,hs,hx,hrun,Result.andThen]
 exact h v' w' r1 r2 r3
def Halt (p:Prop):Prop:=p
theorem Halt.mk {p:Prop}(h:p):Halt p:=h
theorem wpList_apps {P:Program}(w:World){ops:Array Oper}{rest:List Oper}{o:Oper}{a:Act}{Q:Exit→Act→World→Prop}(hgd:o.guard=none)(s x:Operand)(t:TypeId)
 (ho:o.op=.call { callee:=.builtin .append,args:=#[s,x],argTypes:=#[t,t] })
 (B:Nat) (e:TypeId) (i:TypeInfo) (z:Value) (c bytes:Nat) (ht:P.underlying t=some (.slice e)) (hi:P.info? e=some i) (hz:i.zero=some z)
 (hsize:i.size=c) (hby:i.bytes=bytes) (hzs:z.cells.size=c) (hsz:0<c)
 (v:Value) (l:List Rw) (hs:a.eval s=v) (hown:Own B e c w v l)
 (src:Value) (k:List Rw) (hx:a.eval x=src) (hsrc:LsAt c 0 w src k)
 (h63:l.length+k.length≤maxLen) (hbytes:(l.length+k.length)*bytes≤140737488355328) (hbase:B≤w.heap.size)
 (h:∀ v' w',Own B e c w' v' (l ++ k)→w.grownBy w' v.ownBlock→wpList P ops Q rest (a.put o.dst v') w'):wpList P ops Q (o :: rest) a w:=by
 obtain ⟨hw,⟨rfl,rfl⟩ | ⟨b,off,cap,rfl,h1,h2,h3⟩⟩:=hsrc
 ·exact wpList_append_own_none hgd s x t ho B e i c ht hi v l.length (cellsL l) hs hown.2 hx (h v w (by simpa using hown) (World.grownBy.refl w _))
 ·refine wpList_append_own w hgd s x t ho B e i z c bytes ht hi hz hsize hby hzs hsz v l.length (cellsL l) hs hown.2 ⟨b,off,none⟩ k.length cap (cellsL k) hx (cellsL_len hw) (fun j u hj=>?_) (one_int _) h63 hbytes hbase ?_
  ·have h9:=h3 j u hj
   by_cases hj0:j=0
   ·subst hj0;simpa [Addr.add] using h9
   ·simpa [Addr.add,hj0] using h9
  ·intro v' w' ho' hg' _
   exact h v' w' ⟨hown.1.app hw,by rw [cellsL_app,List.length_append];exact ho'⟩ hg'
theorem wpList_appsH {P:Program}(w:World){ops:Array Oper}{rest:List Oper}{o:Oper}{a:Act}{Q:Exit→Act→World→Prop}(hgd:o.guard=none)(s x:Operand)(t:TypeId)
 (ho:o.op=.call { callee:=.builtin .append,args:=#[s,x],argTypes:=#[t,t] })
 (B:Nat) (e:TypeId) (i:TypeInfo) (z:Value) (c bytes:Nat) (ht:P.underlying t=some (.slice e)) (hi:P.info? e=some i) (hz:i.zero=some z)
 (hsize:i.size=c) (hby:i.bytes=bytes) (hzs:z.cells.size=c) (hsz:0<c)
 (v:Value) (l:List Rw) (hs:a.eval s=v) (hown:Own B e c w v l)
 (src:Value) (k:List Rw) (hx:a.eval x=src) (hsrc:LsAt c 0 w src k)
 (h63:l.length+k.length≤maxLen) (hbytes:(l.length+k.length)*bytes≤140737488355328) (hbase:B≤w.heap.size)
 (h:Halt (∀ v' w',Own B e c w' v' (l ++ k)→w.grownBy w' v.ownBlock→wpList P ops Q rest (a.put o.dst v') w')):wpList P ops Q (o :: rest) a w:=
 wpList_apps w hgd s x t ho B e i z c bytes ht hi hz hsize hby hzs hsz v l hs hown src k hx hsrc h63 hbytes hbase h
theorem wpList_appH {P:Program}(w:World){ops:Array Oper}{rest:List Oper}{o:Oper}{a:Act}{Q:Exit→Act→World→Prop}(hgd:o.guard=none)(s x:Operand)(t:TypeId)
 (ho:o.op=.call { callee:=.builtin .append,args:=#[s,x],argTypes:=#[t,t] })
 (B:Nat) (e:TypeId) (i:TypeInfo) (z:Value) (c bytes:Nat) (ht:P.underlying t=some (.slice e)) (hi:P.info? e=some i) (hz:i.zero=some z)
 (hsize:i.size=c) (hby:i.bytes=bytes) (hzs:z.cells.size=c) (hsz:0<c)
 (v:Value) (l:List Rw) (hs:a.eval s=v) (hown:Own B e c w v l)
 (ad:Addr) (m cc:Nat) (news:List Rw) (hx:a.eval x=.slice (some ad) m cc) (hm:news.length=m) (h0:0<m) (hw:Wide c news) (hnews:∀ j u,(cellsL news)[j]?=some u→w.cell? (ad.add j)=some u)
 (h63:l.length+m≤maxLen) (hbytes:(l.length+m)*bytes≤140737488355328) (hbase:B≤w.heap.size)
 (h:Halt (∀ v' w',Own B e c w' v' (l ++ news)→Own B e c w' v l→Appd w w' v v'→wpList P ops Q rest (a.put o.dst v') w')):wpList P ops Q (o :: rest) a w:=
 wpList_app w hgd s x t ho B e i z c bytes ht hi hz hsize hby hzs hsz v l hs hown ad m cc news hx hm h0 hw hnews h63 hbytes hbase h
theorem infoStep:(Tryz.prog.info? 100).map (fun i=>(i.zero,i.size,i.bytes))=some (some (.agg #[.int .i64 0,.int .i64 0]),2,16):=by kernel_rfl
theorem infoLie:(Tryz.prog.info? 136).map (fun i=>(i.zero,i.size,i.bytes))=some (some (.agg #[.int .i64 0,.int .i64 0]),2,16):=by kernel_rfl
theorem infoInt:(Tryz.prog.info? 3).map (fun i=>(i.zero,i.size,i.bytes))=some (some (.int .i64 0),1,8):=by kernel_rfl
theorem infoPart:(Tryz.prog.info? 104).map (fun i=>(i.zero,i.size,i.bytes))=some (some (.agg #[.int .i64 0,.int .i64 0,.int .i64 0]),3,24):=by kernel_rfl
theorem infoFlank:(Tryz.prog.info? 155).map (fun i=>(i.zero,i.size,i.bytes))=some (some (.agg #[.int .i64 0,.int .i64 0,.int .i64 0,.int .i64 0]),4,32):=by kernel_rfl
theorem infoEnd:(Tryz.prog.info? 112).map (fun i=>(i.zero,i.size,i.bytes))=some (some (.agg #[.int .i64 0,.int .i64 0]),2,16):=by kernel_rfl
def Box (w:World)(b:Nat)(T:TypeId)(vs:Array Value):Prop:=w.heap[b]?=some (.cells vs T (0,0))
theorem Box.lt {w:World}{b:Nat}{T:TypeId}{vs:Array Value}(h:Box w b T vs):b<w.heap.size:=(Array.getElem?_eq_some_iff.1 h).1
theorem Box.cell {w:World}{b:Nat}{T:TypeId}{vs:Array Value}(h:Box w b T vs)(j:Nat):w.cell? ⟨b,j,none⟩=vs[j]?:=by
 have h':w.heap[b]?=some (.cells vs T (0,0)):=h
 simp [World.cell?,h']
theorem Box.free {w:World}{b:Nat}{T:TypeId}{vs:Array Value}(h:Box w b T vs)(j:Nat):w.frozen? ⟨b,j,none⟩=false:=by
 have h':w.heap[b]?=some (.cells vs T (0,0)):=h
 simp [World.frozen?,h']
theorem Box.keep {w w':World}{b:Nat}{T:TypeId}{vs:Array Value}(h:Box w b T vs)(hk:w'.heap[b]?=w.heap[b]?):Box w' b T vs:=by
 show w'.heap[b]?=_
 rw [hk];exact h
theorem Box.alloc {w:World}{b:Nat}{T:TypeId}{vs:Array Value}(h:Box w b T vs)(o:Obj):Box (w.alloc o) b T vs:=h.keep (Below.heap_alloc w o b h.lt)
theorem Box.new (w:World)(T:TypeId)(vs:Array Value):Box (w.alloc (.cells vs T)) w.heap.size T vs:=heap_alloc_new w _
theorem Box.set {w:World}{b:Nat}{T:TypeId}{vs:Array Value}(h:Box w b T vs)(j:Nat)(v:Value):Box (w.setCell ⟨b,j,none⟩ v) b T (vs.setIfInBounds j v):=by
 have h':w.heap[b]?=some (.cells vs T (0,0)):=h
 show (w.setCell ⟨b,j,none⟩ v).heap[b]?=_
 simp [World.setCell,Array.getElem?_modify,h']
theorem Box.other {w:World}{b:Nat}{T:TypeId}{vs:Array Value}(h:Box w b T vs){p:Addr}(hp:b≠p.block)(v:Value):Box (w.setCell p v) b T vs:=h.keep (Below.heap_setCell w p v b hp)
theorem Box.drew {w:World}{b:Nat}{T:TypeId}{vs:Array Value}(h:Box w b T vs):Box w.drew b T vs:=h
theorem Box.mono {w w':World}{b:Nat}{T:TypeId}{vs:Array Value}{N:Nat}(h:Box w b T vs)(hb:Below N w w')(hN:w.heap.size≤N):Box w' b T vs:=h.keep (hb.block b (by have:=h.lt;omega))
theorem Box.grown {w w':World}{b:Nat}{T:TypeId}{vs:Array Value}{row:Option Nat}(h:Box w b T vs)(hg:w.grownBy w' row)(hr:row≠some b):Box w' b T vs:=h.keep (hg.block b h.lt (fun e=>hr e.symm))
theorem Own.made (w:World)(B:Nat)(e:TypeId)(c:Nat)(hb:B≤w.heap.size):Own B e c (w.alloc (.cells #[] e)) (.slice (some ⟨w.heap.size,0,none⟩) 0 0) []:=
 ⟨Wide.nil c,by simpa [cellsL] using World.ownsRow_made (size:=c) w #[] 0 hb zl (by simp)⟩
theorem Own.made' {w:World}{q B:Nat}{e:TypeId}{c:Nat}(hq:w.heap.size=q)(hb:B≤q):Own B e c (w.alloc (.cells #[] e)) (.slice (some ⟨q,0,none⟩) 0 0) []:=by
 subst hq
 exact Own.made w B e c hb
theorem Own.off {B:Nat}{e:TypeId}{c:Nat}{w:World}{v:Value}{l:List Rw}(h:Own B e c w v l){q:Nat}{T:TypeId}{vs:Array Value}(hb:Box w q T vs)(hT:T≠e){g:Nat}(hg:v.ownBlock=some g):g≠q:=by
 intro e'
 rcases h.shape with ⟨rfl,rfl⟩ | ⟨g',cap,cur,rfl,h2,h3,h4⟩
 ·simp [Value.ownBlock] at hg
 ·simp only [Value.ownBlock,Option.some.injEq] at hg
  subst hg
  subst e'
  have hb':w.heap[g']?=some (.cells vs T (0,0)):=hb
  rw [h3] at hb'
  simp only [Option.some.injEq,Obj.cells.injEq] at hb'
  exact hT hb'.2.1.symm
theorem Own.alloc {B:Nat}{e:TypeId}{c:Nat}{w:World}{v:Value}{l:List Rw}(h:Own B e c w v l)(o:Obj):Own B e c (w.alloc o) v l:=h.keep lr fun g hg=>Below.heap_alloc w o g (h.lt hg).2
theorem Own.set {B:Nat}{e:TypeId}{c:Nat}{w:World}{v:Value}{l:List Rw}(h:Own B e c w v l){q:Nat}{T:TypeId}{vs:Array Value}(hb:Box w q T vs)(hT:T≠e)(j:Nat)(u:Value):Own B e c (w.setCell ⟨q,j,none⟩ u) v l:=
 h.keep lr fun g hg=>Below.heap_setCell w _ u g (fun e'=>by
  rcases h.shape with ⟨rfl,rfl⟩ | ⟨g',cap,cur,rfl,h2,h3,h4⟩
  ·simp [Value.ownBlock] at hg
  ·simp only [Value.ownBlock,Option.some.injEq] at hg
   have e'':g=q:=e'
   subst hg
   subst e''
   have hb':w.heap[g']?=some (.cells vs T (0,0)):=hb
   rw [h3] at hb'
   simp only [Option.some.injEq,Obj.cells.injEq] at hb'
   exact hT hb'.2.1.symm)
theorem Own.grown {B:Nat}{e:TypeId}{c:Nat}{w w':World}{v:Value}{l:List Rw}{row:Option Nat}(h:Own B e c w v l)(hg:w.grownBy w' row)(hr:∀ g,v.ownBlock=some g→row≠some g):Own B e c w' v l:=
 h.keep lr fun g hv=>hg.block g (h.lt hv).2 (fun e=>hr g hv e.symm)
theorem Own.grown_at {B:Nat}{e:TypeId}{c:Nat}{w w0 w':World}{v:Value}{l:List Rw}{q:Nat}(h:Own B e c w v l)(h0:Own B e c w0 v l)(hq:w0.heap.size≤q)(hg:w.grownBy w' (some q)):Own B e c w' v l:=
 h.grown hg fun g hv e=>by have:=(h0.lt hv).2;simp only [Option.some.injEq] at e;omega
theorem Box.grown_at {w w':World}{b:Nat}{T:TypeId}{vs:Array Value}{q:Nat}(h:Box w b T vs)(hg:w.grownBy w' (some q))(hq:b≠q):Box w' b T vs:=h.grown hg (fun e=>hq (by simpa using e.symm))
theorem size_setc (w:World)(p:Addr)(v:Value):(w.setCell p v).heap.size=w.heap.size:=by simp [World.setCell]
def set8 (w:World)(b:Nat)(a0 a1 a2 a3 a4 a5 a6 a7:Value):World:=(((((((w.setCell ⟨b,0,none⟩ a0).setCell ⟨b,1,none⟩ a1).setCell ⟨b,2,none⟩ a2).setCell ⟨b,3,none⟩ a3).setCell ⟨b,4,none⟩ a4).setCell ⟨b,5,none⟩ a5).setCell ⟨b,6,none⟩ a6).setCell ⟨b,7,none⟩ a7
theorem set8_keep (w:World)(b:Nat)(a0 a1 a2 a3 a4 a5 a6 a7:Value){g:Nat}(h:g≠b):(set8 w b a0 a1 a2 a3 a4 a5 a6 a7).heap[g]?=w.heap[g]?:=by
 unfold set8
 rw [Below.heap_setCell _ _ _ _ h,Below.heap_setCell _ _ _ _ h,Below.heap_setCell _ _ _ _ h,Below.heap_setCell _ _ _ _ h,Below.heap_setCell _ _ _ _ h,Below.heap_setCell _ _ _ _ h,Below.heap_setCell _ _ _ _ h,Below.heap_setCell _ _ _ _ h]
theorem set8_size (w:World)(b:Nat)(a0 a1 a2 a3 a4 a5 a6 a7:Value):(set8 w b a0 a1 a2 a3 a4 a5 a6 a7).heap.size=w.heap.size:=by
 unfold set8
 rw [size_setc,size_setc,size_setc,size_setc,size_setc,size_setc,size_setc,size_setc]
theorem set8_below {N:Nat}{w w0:World}(h:Below N w w0){b:Nat}(hb:N≤b)(a0 a1 a2 a3 a4 a5 a6 a7:Value):Below N w (set8 w0 b a0 a1 a2 a3 a4 a5 a6 a7):=by
 unfold set8
 exact (((((((h.setCell (p:=⟨b,0,none⟩) hb a0).setCell (p:=⟨b,1,none⟩) hb a1).setCell (p:=⟨b,2,none⟩) hb a2).setCell (p:=⟨b,3,none⟩) hb a3).setCell (p:=⟨b,4,none⟩) hb a4).setCell (p:=⟨b,5,none⟩) hb a5).setCell (p:=⟨b,6,none⟩) hb a6).setCell (p:=⟨b,7,none⟩) hb a7
theorem Box.past {w:World}{b:Nat}{T:TypeId}{vs:Array Value}(h:Box w b T vs)(j:Nat){q:Nat}(hq:b≠q)(i:Nat):∀ v o,((w.setCell ⟨q,i,none⟩ v).alloc o).cell? ⟨b,j,none⟩=vs[j]?:=fun v o=>
 ((h.other (p:=⟨q,i,none⟩) hq v).alloc o).cell j
theorem copy_end {w w4:World}{fr to:Int}{v1 v2 v3 v4 v5 v6:Value}{st li cr pa:List Rw}{xs ps:Array Value}(h1:Own w.heap.size 100 2 w4 v1 st)(h2:Own w.heap.size 136 2 w4 v2 li)(h3:Own w.heap.size 3 1 w4 v3 cr)(h4:Own w.heap.size 104 3 w4 v4 pa)
 (hx:Box w4 (w.heap.size+1) 64 xs) (hp:Box w4 (w.heap.size+1+1) 64 ps) (hb:Below w.heap.size w w4) {u:Value}:
 ∃ sv' lv' xv' qv',Ending.returned (.agg #[.int .i64 fr,.int .i64 to,v1,v2,v3,v4,v5,v6])=.returned (.agg #[.int .i64 fr,.int .i64 to,sv',lv',xv',qv',v5,v6])∧
  Own w.heap.size 100 2 (set8 (w4.setCell ⟨w.heap.size+1+1,5,none⟩ u) (w.heap.size+1) (.int .i64 fr) (.int .i64 to) v1 v2 v3 v4 v5 v6) sv' st∧Own w.heap.size 136 2 (set8 (w4.setCell ⟨w.heap.size+1+1,5,none⟩ u) (w.heap.size+1) (.int .i64 fr) (.int .i64 to) v1 v2 v3 v4 v5 v6) lv' li∧
  Own w.heap.size 3 1 (set8 (w4.setCell ⟨w.heap.size+1+1,5,none⟩ u) (w.heap.size+1) (.int .i64 fr) (.int .i64 to) v1 v2 v3 v4 v5 v6) xv' cr∧Own w.heap.size 104 3 (set8 (w4.setCell ⟨w.heap.size+1+1,5,none⟩ u) (w.heap.size+1) (.int .i64 fr) (.int .i64 to) v1 v2 v3 v4 v5 v6) qv' pa∧
  Below w.heap.size w (set8 (w4.setCell ⟨w.heap.size+1+1,5,none⟩ u) (w.heap.size+1) (.int .i64 fr) (.int .i64 to) v1 v2 v3 v4 v5 v6):=by
 have K:∀ g,g≠w.heap.size+1→g≠w.heap.size+1+1→(set8 (w4.setCell ⟨w.heap.size+1+1,5,none⟩ u) (w.heap.size+1) (.int .i64 fr) (.int .i64 to) v1 v2 v3 v4 v5 v6).heap[g]?=w4.heap[g]?:=fun g h1 h2=>by
  rw [set8_keep _ _ _ _ _ _ _ _ _ _ h1,Below.heap_setCell _ _ _ _ h2]
 refine ⟨v1,v2,v3,v4,rfl,h1.keep lr fun g hv=>K g (h1.off hx (by decide) hv) (h1.off hp (by decide) hv),h2.keep lr fun g hv=>K g (h2.off hx (by decide) hv) (h2.off hp (by decide) hv),
  h3.keep lr fun g hv=>K g (h3.off hx (by decide) hv) (h3.off hp (by decide) hv),h4.keep lr fun g hv=>K g (h4.off hx (by decide) hv) (h4.off hp (by decide) hv),set8_below (hb.setCell (p:=⟨w.heap.size+1+1,5,none⟩) (show w.heap.size≤w.heap.size+1+1 by omega) u) (by omega) _ _ _ _ _ _ _ _⟩
set_option maxRecDepth 100000 in
set_option maxHeartbeats 4000000 in
theorem l12copy52 (fr to:Int)(sv lv xv qv ov fv:Value)(st li cr pa:List Rw)(w:World)(h1:LsAt 2 0 w sv st)(h2:LsAt 2 0 w lv li)(h3:LsAt 1 0 w xv cr)(h4:LsAt 3 0 w qv pa)
 (n1:st.length≤1048576) (n2:li.length≤1048576) (n3:cr.length≤1048576) (n4:pa.length≤1048576) (o1:∃ a n c,ov=.slice a n c) (o2:∃ a n c,fv=.slice a n c):
 Calls Tryz.prog 52 #[.agg #[.int .i64 fr,.int .i64 to,sv,lv,xv,qv,ov,fv]] w fun e w'=>∃ sv' lv' xv' qv',e=.returned (.agg #[.int .i64 fr,.int .i64 to,sv',lv',xv',qv',ov,fv])∧
  Own w.heap.size 100 2 w' sv' st∧Own w.heap.size 136 2 w' lv' li∧Own w.heap.size 3 1 w' xv' cr∧Own w.heap.size 104 3 w' qv' pa∧Below w.heap.size w w':=by
 obtain ⟨ao,no,co,rfl⟩:=o1
 obtain ⟨af,nf,cf,rfl⟩:=o2
 obtain ⟨as',cs',hsv,-⟩:=h1.val
 obtain ⟨al,cl,hlv,-⟩:=h2.val
 obtain ⟨ax,cx,hxv,-⟩:=h3.val
 obtain ⟨aq,cq,hqv,-⟩:=h4.val
 subst hsv hlv hxv hqv
 obtain ⟨i1,e1,e2,e3,e4⟩:=info_parts infoStep
 obtain ⟨i2,f1,f2,f3,f4⟩:=info_parts infoLie
 obtain ⟨i3,g1,g2,g3,g4⟩:=info_parts infoInt
 obtain ⟨i4,k1,k2,k3,k4⟩:=info_parts infoPart
 have H1:Hid (LsAt 2 0 w (.slice as' st.length cs') st):=h1
 have H2:Hid (LsAt 2 0 w (.slice al li.length cl) li):=h2
 have H3:Hid (LsAt 1 0 w (.slice ax cr.length cx) cr):=h3
 have H4:Hid (LsAt 3 0 w (.slice aq pa.length cq) pa):=h4
 clear h1 h2 h3 h4
 obtain ⟨R,hR⟩:∃ R:Array Value,R=#[.int .i64 fr,.int .i64 to,.slice as' st.length cs',.slice al li.length cl,.slice ax cr.length cx,.slice aq pa.length cq,.slice ao no co,.slice af nf cf]:=⟨_,rfl⟩
 have HR:Hid (R=#[.int .i64 fr,.int .i64 to,.slice as' st.length cs',.slice al li.length cl,.slice ax cr.length cx,.slice aq pa.length cq,.slice ao no co,.slice af nf cf]):=hR
 clear hR
 go_enter Tryz.func52,Tryz.ntmps52
 go_wp2_with (at_builtin;refine wpList_appsH _ rfl (.tmp 5) (.tmp 7) 58 rfl w.heap.size 100 i1 _ 2 16 Tryz.underlying58 e1 e2 e3 e4 rfl (by decide) _ [] rfl (Own.made' (q:=w.heap.size+1+1+1) (by simp) (by omega)) _ st rfl (H1.out.mono lr (bel4 w _ _ _ _) lr) (by simp [maxLen];omega) (by simp;omega) (by simp;omega) ?_)
 refine Halt.mk fun v1 w1 ho1 hg1=>?_
 obtain ⟨a1,c1,rfl⟩:=ho1.val
 have hg:World.grownBy _ w1 (some (w.heap.size+1+1+1)):=hg1
 clear hg1
 have D1:Below w.heap.size w w1:=(bel4 w _ _ _ _).grown hg (by simp;omega) (fun k e=>by simp at e;omega)
 have z1:w.heap.size+1+1+1+1≤w1.heap.size:=by have:=hg.size;simpa using this
 have b1:Box w1 w.heap.size 64 R:=by
  rw [HR.out]
  exact ((((Box.new w 64 _).alloc _).alloc _).alloc _).grown_at hg (by omega)
 have p1:Box w1 (w.heap.size+1+1) 64 R:=by
  rw [HR.out]
  refine Box.grown_at ?_ hg (by omega)
  refine Box.alloc ?_ _
  have:=Box.new ((w.alloc (.cells #[.int .i64 fr,.int .i64 to,.slice as' st.length cs',.slice al li.length cl,.slice ax cr.length cx,.slice aq pa.length cq,.slice ao no co,.slice af nf cf] 64)).alloc (.cells #[.int .i64 0,.int .i64 0,.slice none 0 0,.slice none 0 0,.slice none 0 0,.slice none 0 0,.slice none 0 0,.slice none 0 0] 64)) 64 #[.int .i64 fr,.int .i64 to,.slice as' st.length cs',.slice al li.length cl,.slice ax cr.length cx,.slice aq pa.length cq,.slice ao no co,.slice af nf cf]
  simp only [World.size_alloc] at this
  exact this
 have O1:Hid (Own w.heap.size 100 2 w1 (.slice a1 st.length c1) st):=ho1
 have t1:=p1.free 2
 have u1:w1.cell? ⟨w.heap.size+1+1,2,none⟩=some (.slice as' st.length cs'):=by rw [p1.cell 2,HR.out];rfl
 have s1:∀ v o,((w1.setCell ⟨w.heap.size+1+1,2,none⟩ v).alloc o).cell? ⟨w.heap.size,3,none⟩=some (.slice al li.length cl):=fun v o=>by rw [b1.past 3 (by omega),HR.out];rfl
 have P1:Hid (Box w1 (w.heap.size+1+1) 64 R):=p1
 have B1:Hid (Box w1 w.heap.size 64 R):=b1
 have E1:Hid (Below w.heap.size w w1):=D1
 have x1:Box w1 (w.heap.size+1) 64 #[.int .i64 0,.int .i64 0,.slice none 0 0,.slice none 0 0,.slice none 0 0,.slice none 0 0,.slice none 0 0,.slice none 0 0]:=by
  refine Box.grown_at ?_ hg (by omega)
  refine Box.alloc (Box.alloc ?_ _) _
  have:=Box.new (w.alloc (.cells #[.int .i64 fr,.int .i64 to,.slice as' st.length cs',.slice al li.length cl,.slice ax cr.length cx,.slice aq pa.length cq,.slice ao no co,.slice af nf cf] 64)) 64 #[.int .i64 0,.int .i64 0,.slice none 0 0,.slice none 0 0,.slice none 0 0,.slice none 0 0,.slice none 0 0,.slice none 0 0]
  simp only [World.size_alloc] at this
  exact this
 have X1:Hid (Box w1 (w.heap.size+1) 64 #[.int .i64 0,.int .i64 0,.slice none 0 0,.slice none 0 0,.slice none 0 0,.slice none 0 0,.slice none 0 0,.slice none 0 0]):=x1
 clear ho1 hg p1 b1 D1 x1
 go_wp2_with (at_builtin;refine wpList_appsH _ rfl (.tmp 10) (.tmp 12) 59 rfl w.heap.size 136 i2 _ 2 16 Tryz.underlying59 f1 f2 f3 f4 rfl (by decide) _ [] rfl (Own.made' (q:=w1.heap.size) (by simp) (by omega)) _ li rfl (H2.out.mono lr ((E1.out.setCell (p:=⟨w.heap.size+1+1,2,none⟩) (by show w.heap.size≤w.heap.size+1+1;omega) _).alloc (by rw [size_setc];omega) _) lr) (by simp [maxLen];omega) (by simp;omega) (by simp;omega) ?_)
 refine Halt.mk fun v2 w2 ho2 hg2=>?_
 obtain ⟨a2,c2,rfl⟩:=ho2.val
 have hg:((w1.setCell ⟨w.heap.size+1+1,2,none⟩ (.slice a1 st.length c1)).alloc (.cells #[] 136)).grownBy w2 (some w1.heap.size):=hg2
 have z2:w1.heap.size+1≤w2.heap.size:=by have:=hg.size;simpa [size_setc] using this
 have D2:Below w.heap.size w w2:=((E1.out.setCell (p:=⟨w.heap.size+1+1,2,none⟩) (by show w.heap.size≤w.heap.size+1+1;omega) (.slice a1 st.length c1)).alloc (by rw [size_setc];omega) _).grown hg (by simp;omega) (fun k e=>by simp at e;omega)
 have b2:Box w2 w.heap.size 64 R:=((B1.out.other (p:=⟨w.heap.size+1+1,2,none⟩) (by show w.heap.size≠w.heap.size+1+1;omega) _).alloc _).grown_at hg (by omega)
 have p2:Box w2 (w.heap.size+1+1) 64 (R.setIfInBounds 2 (.slice a1 st.length c1)):=((P1.out.set 2 _).alloc _).grown_at hg (by omega)
 have O12:Hid (Own w.heap.size 100 2 w2 (.slice a1 st.length c1) st):=(((O1.out.set P1.out (by decide) 2 (.slice a1 st.length c1)).alloc (.cells #[] 136))).grown hg (fun g hv e=>by have:=(O1.out.lt hv).2;simp at e;omega)
 have X2:Hid (Box w2 (w.heap.size+1) 64 #[.int .i64 0,.int .i64 0,.slice none 0 0,.slice none 0 0,.slice none 0 0,.slice none 0 0,.slice none 0 0,.slice none 0 0]):=((X1.out.other (p:=⟨w.heap.size+1+1,2,none⟩) (by show w.heap.size+1≠w.heap.size+1+1;omega) (.slice a1 st.length c1)).alloc _).grown_at hg (by omega)
 have O2:Hid (Own w.heap.size 136 2 w2 (.slice a2 li.length c2) li):=ho2
 have t2:=p2.free 3
 have u2:w2.cell? ⟨w.heap.size+1+1,3,none⟩=some (.slice al li.length cl):=by rw [p2.cell 3,HR.out];rfl
 have s2:∀ v o,((w2.setCell ⟨w.heap.size+1+1,3,none⟩ v).alloc o).cell? ⟨w.heap.size,4,none⟩=some (.slice ax cr.length cx):=fun v o=>by rw [b2.past 4 (by omega),HR.out];rfl
 have P2:Hid (Box w2 (w.heap.size+1+1) 64 (R.setIfInBounds 2 (.slice a1 st.length c1))):=p2
 have B2:Hid (Box w2 w.heap.size 64 R):=b2
 have E2:Hid (Below w.heap.size w w2):=D2
 clear ho2 hg2 hg p2 b2 D2 t1 u1 s1 P1 B1
 go_wp2_with (at_builtin;refine wpList_appsH _ rfl (.tmp 15) (.tmp 17) 60 rfl w.heap.size 3 i3 _ 1 8 Tryz.underlying60 g1 g2 g3 g4 rfl (by decide) _ [] rfl (Own.made' (q:=w2.heap.size) (by simp) (by omega)) _ cr rfl (H3.out.mono lr ((E2.out.setCell (p:=⟨w.heap.size+1+1,3,none⟩) (by show w.heap.size≤w.heap.size+1+1;omega) _).alloc (by rw [size_setc];omega) _) lr) (by simp [maxLen];omega) (by simp;omega) (by simp;omega) ?_)
 refine Halt.mk fun v3 w3 ho3 hg3=>?_
 obtain ⟨a3,c3,rfl⟩:=ho3.val
 have hg:((w2.setCell ⟨w.heap.size+1+1,3,none⟩ (.slice a2 li.length c2)).alloc (.cells #[] 3)).grownBy w3 (some w2.heap.size):=hg3
 have z3:w2.heap.size+1≤w3.heap.size:=by have:=hg.size;simpa [size_setc] using this
 have D3:Below w.heap.size w w3:=((E2.out.setCell (p:=⟨w.heap.size+1+1,3,none⟩) (by show w.heap.size≤w.heap.size+1+1;omega) (.slice a2 li.length c2)).alloc (by rw [size_setc];omega) _).grown hg (by simp;omega) (fun k e=>by simp at e;omega)
 have b3:Box w3 w.heap.size 64 R:=((B2.out.other (p:=⟨w.heap.size+1+1,3,none⟩) (by show w.heap.size≠w.heap.size+1+1;omega) _).alloc _).grown_at hg (by omega)
 have p3:Box w3 (w.heap.size+1+1) 64 ((R.setIfInBounds 2 (.slice a1 st.length c1)).setIfInBounds 3 (.slice a2 li.length c2)):=((P2.out.set 3 _).alloc _).grown_at hg (by omega)
 have O13:Hid (Own w.heap.size 100 2 w3 (.slice a1 st.length c1) st):=(((O12.out.set P2.out (by decide) 3 (.slice a2 li.length c2)).alloc (.cells #[] 3))).grown hg (fun g hv e=>by have:=(O12.out.lt hv).2;simp at e;omega)
 have O23:Hid (Own w.heap.size 136 2 w3 (.slice a2 li.length c2) li):=(((O2.out.set P2.out (by decide) 3 (.slice a2 li.length c2)).alloc (.cells #[] 3))).grown hg (fun g hv e=>by have:=(O2.out.lt hv).2;simp at e;omega)
 have X3:Hid (Box w3 (w.heap.size+1) 64 #[.int .i64 0,.int .i64 0,.slice none 0 0,.slice none 0 0,.slice none 0 0,.slice none 0 0,.slice none 0 0,.slice none 0 0]):=((X2.out.other (p:=⟨w.heap.size+1+1,3,none⟩) (by show w.heap.size+1≠w.heap.size+1+1;omega) (.slice a2 li.length c2)).alloc _).grown_at hg (by omega)
 have O3:Hid (Own w.heap.size 3 1 w3 (.slice a3 cr.length c3) cr):=ho3
 have t3:=p3.free 4
 have u3:w3.cell? ⟨w.heap.size+1+1,4,none⟩=some (.slice ax cr.length cx):=by rw [p3.cell 4,HR.out];rfl
 have s3:∀ v o,((w3.setCell ⟨w.heap.size+1+1,4,none⟩ v).alloc o).cell? ⟨w.heap.size,5,none⟩=some (.slice aq pa.length cq):=fun v o=>by rw [b3.past 5 (by omega),HR.out];rfl
 have P3:Hid (Box w3 (w.heap.size+1+1) 64 ((R.setIfInBounds 2 (.slice a1 st.length c1)).setIfInBounds 3 (.slice a2 li.length c2))):=p3
 have B3:Hid (Box w3 w.heap.size 64 R):=b3
 have E3:Hid (Below w.heap.size w w3):=D3
 clear ho3 hg3 hg p3 b3 D3 t2 u2 s2 P2 B2
 go_wp2_with (at_builtin;refine wpList_appsH _ rfl (.tmp 20) (.tmp 22) 61 rfl w.heap.size 104 i4 _ 3 24 Tryz.underlying61 k1 k2 k3 k4 rfl (by decide) _ [] rfl (Own.made' (q:=w3.heap.size) (by simp) (by omega)) _ pa rfl (H4.out.mono lr ((E3.out.setCell (p:=⟨w.heap.size+1+1,4,none⟩) (by show w.heap.size≤w.heap.size+1+1;omega) _).alloc (by rw [size_setc];omega) _) lr) (by simp [maxLen];omega) (by simp;omega) (by simp;omega) ?_)
 refine Halt.mk fun v4 w4 ho4 hg4=>?_
 obtain ⟨a4,c4,rfl⟩:=ho4.val
 have hg:((w3.setCell ⟨w.heap.size+1+1,4,none⟩ (.slice a3 cr.length c3)).alloc (.cells #[] 104)).grownBy w4 (some w3.heap.size):=hg4
 have z4:w3.heap.size+1≤w4.heap.size:=by have:=hg.size;simpa [size_setc] using this
 have D4:Below w.heap.size w w4:=((E3.out.setCell (p:=⟨w.heap.size+1+1,4,none⟩) (by show w.heap.size≤w.heap.size+1+1;omega) (.slice a3 cr.length c3)).alloc (by rw [size_setc];omega) _).grown hg (by simp;omega) (fun k e=>by simp at e;omega)
 have b4:Box w4 w.heap.size 64 R:=((B3.out.other (p:=⟨w.heap.size+1+1,4,none⟩) (by show w.heap.size≠w.heap.size+1+1;omega) _).alloc _).grown_at hg (by omega)
 have p4:Box w4 (w.heap.size+1+1) 64 (((R.setIfInBounds 2 (.slice a1 st.length c1)).setIfInBounds 3 (.slice a2 li.length c2)).setIfInBounds 4 (.slice a3 cr.length c3)):=((P3.out.set 4 _).alloc _).grown_at hg (by omega)
 have O14:Hid (Own w.heap.size 100 2 w4 (.slice a1 st.length c1) st):=(((O13.out.set P3.out (by decide) 4 (.slice a3 cr.length c3)).alloc (.cells #[] 104))).grown hg (fun g hv e=>by have:=(O13.out.lt hv).2;simp at e;omega)
 have O24:Hid (Own w.heap.size 136 2 w4 (.slice a2 li.length c2) li):=(((O23.out.set P3.out (by decide) 4 (.slice a3 cr.length c3)).alloc (.cells #[] 104))).grown hg (fun g hv e=>by have:=(O23.out.lt hv).2;simp at e;omega)
 have O34:Hid (Own w.heap.size 3 1 w4 (.slice a3 cr.length c3) cr):=(((O3.out.set P3.out (by decide) 4 (.slice a3 cr.length c3)).alloc (.cells #[] 104))).grown hg (fun g hv e=>by have:=(O3.out.lt hv).2;simp at e;omega)
 have X4:Hid (Box w4 (w.heap.size+1) 64 #[.int .i64 0,.int .i64 0,.slice none 0 0,.slice none 0 0,.slice none 0 0,.slice none 0 0,.slice none 0 0,.slice none 0 0]):=((X3.out.other (p:=⟨w.heap.size+1+1,4,none⟩) (by show w.heap.size+1≠w.heap.size+1+1;omega) (.slice a3 cr.length c3)).alloc _).grown_at hg (by omega)
 have O4:Hid (Own w.heap.size 104 3 w4 (.slice a4 pa.length c4) pa):=ho4
 have t4:=p4.free 5
 have u4:w4.cell? ⟨w.heap.size+1+1,5,none⟩=some (.slice aq pa.length cq):=by rw [p4.cell 5,HR.out];rfl
 have q4:=p4.set 5 (.slice a4 pa.length c4)
 have m1:=q4.cell 0
 have m2:=q4.cell 1
 have m3:=q4.cell 2
 have m4:=q4.cell 3
 have m5:=q4.cell 4
 have m6:=q4.cell 5
 have m7:=q4.cell 6
 have m8:=q4.cell 7
 rw [HR.out] at m1 m2 m3 m4 m5 m6 m7 m8
 have rx:=X4.out.other (p:=⟨w.heap.size+1+1,5,none⟩) (by show w.heap.size+1≠w.heap.size+1+1;omega) (.slice a4 pa.length c4)
 have r0:=rx.cell 0
 have ff0:=rx.free 0
 have r1:=rx.cell 1
 have ff1:=rx.free 1
 have r2:=rx.cell 2
 have ff2:=rx.free 2
 have r3:=rx.cell 3
 have ff3:=rx.free 3
 have r4:=rx.cell 4
 have ff4:=rx.free 4
 have r5:=rx.cell 5
 have ff5:=rx.free 5
 have r6:=rx.cell 6
 have ff6:=rx.free 6
 have r7:=rx.cell 7
 have ff7:=rx.free 7
 simp only [List.getElem?_toArray,List.getElem?_cons_zero,List.getElem?_cons_succ] at r0 r1 r2 r3 r4 r5 r6 r7
 clear rx
 have P4:Hid (Box w4 (w.heap.size+1+1) 64 (((R.setIfInBounds 2 (.slice a1 st.length c1)).setIfInBounds 3 (.slice a2 li.length c2)).setIfInBounds 4 (.slice a3 cr.length c3))):=p4
 have B4:Hid (Box w4 w.heap.size 64 R):=b4
 have E4:Hid (Below w.heap.size w w4):=D4
 clear ho4 hg4 hg p4 b4 D4 t3 u3 s3 P3 B3
 go_wp2_with fail
 refine bodyPost_ret (v:=.agg #[.int .i64 fr,.int .i64 to,.slice a1 st.length c1,.slice a2 li.length c2,.slice a3 cr.length c3,.slice a4 pa.length c4,.slice ao no co,.slice af nf cf]) (by simp [results,Tryz.results52,go_sem,r0,r1,r2,r3,r4,r5,r6,r7]) rfl ?_
 exact copy_end O14.out O24.out O34.out O4.out X4.out P4.out E4.out
end Go.Proofs.YtkhaehpobpkkiaaGreat
