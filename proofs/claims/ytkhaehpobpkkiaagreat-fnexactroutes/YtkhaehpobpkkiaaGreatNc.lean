import Derived.Deep.RegionLaw
import Derived.BigQuiet
import Derived.Deep.CutRange
import Derived.Test.YtkhaehpobpkkiaaGreatR7a
import Derived.Test.YtkhaehpobpkkiaaGreatR7b
import Derived.Test.YtkhaehpobpkkiaaGreatNb
namespace Go.Proofs.YtkhaehpobpkkiaaGreat
open Go.RowKit
theorem flank87 {v:Ev}(ok:v.Ok){w0:World}{pa:Option Addr}{pc:Nat}{ja:Option Addr}{jc:Nat}{sa:Option Addr}{sc:Nat}(hN:NetIn w0 v pa ja sa){bf br:Nat}{out:Value}{tries:Int}{li:List Rw}(hli:li.length≤1048576){atj:Int}{a0 a1 a2 lv a4 a5 a6:Value}
 (hbf:w0.heap.size≤bf) (hbr:w0.heap.size≤br) (hne:bf≠br) (f:Nat):FlankC v w0 pa pc ja jc sa sc bf br out tries li atj a0 a1 a2 lv a4 a5 a6 f:=by
 induction f with
 | zero=>
  intro seen fv sl fl e w _ _ _ _ _ _ _ hso hfu _
  have:=hso.len
  omega
 | succ f ih=>
  intro seen fv sl fl e w he hB hb hs hr hl hf hso hfu hfl
  obtain ⟨epc,esd⟩:=e
  rcases he.2.2 with h | h
  ·have h':esd=0:=h
   subst h'
   exact flank0 ok hN hli hbf hbr hne ih seen fv sl fl epc w he hB hb hs hr hl hf hso hfu hfl
  ·have h':esd=1:=h
   subst h'
   exact flank1 ok hN hli hbf hbr hne ih seen fv sl fl epc w he hB hb hs hr hl hf hso hfu hfl
theorem FlankP.frame {v:Ev}{w0:World}{pa:Option Addr}{pc:Nat}{ja:Option Addr}{jc:Nat}{sa:Option Addr}{sc:Nat}{bf br:Nat}{out:Value}{tries:Int}{li:List Rw}{atj:Int}{a0 a1 a2 lv a4 a5 a6:Value}{f:Nat}{seen fv:Value}{sl fl:List Rw}{e:En}{w:World}{r:Ending}{w':World}
 (h:FlankP v w0 pa pc ja jc sa sc bf br out tries li atj a0 a1 a2 lv a4 a5 a6 f seen fv sl fl e w r w'):Fr (fun k=>k=bf∨k=br∨seen.ownBlock=some k∨fv.ownBlock=some k) w w':=by
 obtain ⟨_,s9,f9,g1,g2,g3,g4,g5,g6,g7,g8,g9⟩:=h
 exact g7
theorem FlankP.keep {v:Ev}{w0:World}{pa:Option Addr}{pc:Nat}{ja:Option Addr}{jc:Nat}{sa:Option Addr}{sc:Nat}{bf br:Nat}{out:Value}{tries:Int}{li:List Rw}{atj:Int}{a0 a1 a2 lv a4 a5 a6:Value}{f:Nat}{seen fv:Value}{sl fl:List Rw}{e:En}{w:World}{r:Ending}{w':World}
 (h:FlankP v w0 pa pc ja jc sa sc bf br out tries li atj a0 a1 a2 lv a4 a5 a6 f seen fv sl fl e w r w') {k:Nat} (hk:k<w.heap.size) (h1:k≠bf) (h2:k≠br) (h3:seen.ownBlock≠some k) (h4:fv.ownBlock≠some k):w'.heap[k]?=w.heap[k]?:=by
 refine h.frame.block k hk fun y=>?_
 rcases y with y | y | y | y
 ·exact h1 y
 ·exact h2 y
 ·exact h3 y
 ·exact h4 y
theorem FlankP.below {v:Ev}{w0:World}{pa:Option Addr}{pc:Nat}{ja:Option Addr}{jc:Nat}{sa:Option Addr}{sc:Nat}{bf br:Nat}{out:Value}{tries:Int}{li:List Rw}{atj:Int}{a0 a1 a2 lv a4 a5 a6:Value}{f:Nat}{seen fv:Value}{sl fl:List Rw}{e:En}{w:World}{r:Ending}{w':World}
 (h:FlankP v w0 pa pc ja jc sa sc bf br out tries li atj a0 a1 a2 lv a4 a5 a6 f seen fv sl fl e w r w'):Below w0.heap.size w0 w':=by
 obtain ⟨_,s9,f9,g1,_⟩:=h
 exact g1
theorem drewN_size (w:World)(n:Nat):(w.drewN n).heap.size=w.heap.size:=by
 induction n generalizing w with
 | zero=>rfl
 | succ n ih=>exact ih _
structure DnS (v:Ev)(w0:World)(pa:Option Addr)(pc:Nat)(ja:Option Addr)(jc:Nat)(sa:Option Addr)(sc:Nat)(bf:Nat)(out:Value)(tries:Int)(li:List Rw)(a0 a1 a2 lv a4 a5 a6:Value)(w:World)(fl:List Rw)(seen fv:Value)(wx:World):Prop where
 bel:Below w0.heap.size w0 wx
 bx:Box wx bf 55 (fBox v pa pc ja jc sa sc out tries seen)
 rt:Box wx w.heap.size 64 #[a0,a1,a2,lv,a4,a5,a6,fv]
 li:Own w0.heap.size 136 2 wx lv li
 fl:Own w0.heap.size 155 4 wx fv fl
 fr:Fr (fun k=>k=bf) w wx
 mv:Moved w (.slice none 0 0) fv
section
variable {v:Ev} {w0:World} {pa:Option Addr} {pc:Nat} {ja:Option Addr} {jc:Nat} {sa:Option Addr} {sc:Nat} {bf:Nat} {out:Value} {tries:Int} {li:List Rw} {a0 a1 a2 lv a4 a5 a6:Value} {w:World} {fl:List Rw} {seen fv:Value} {wx wy:World}
theorem DnS.mono (h:DnS v w0 pa pc ja jc sa sc bf out tries li a0 a1 a2 lv a4 a5 a6 w fl seen fv wx)(hb:Below wx.heap.size wx wy):DnS v w0 pa pc ja jc sa sc bf out tries li a0 a1 a2 lv a4 a5 a6 w fl seen fv wy:=
 ⟨h.bel.trans (hb.mono h.bel.size),h.bx.mono hb lr,h.rt.mono hb lr,h.li.mono lr hb lr,h.fl.mono lr hb lr,h.fr.trans (Fr.of_below hb),h.mv⟩
theorem DnS.clear (h:DnS v w0 pa pc ja jc sa sc bf out tries li a0 a1 a2 lv a4 a5 a6 w fl seen fv wx)(hbf:w0.heap.size≤bf)(hne:bf≠w.heap.size)(u:Value):DnS v w0 pa pc ja jc sa sc bf out tries li a0 a1 a2 lv a4 a5 a6 w fl u fv (wx.setCell ⟨bf,6,none⟩ u):=
 ⟨h.bel.setCell (p:=⟨bf,6,none⟩) hbf u,by have:=h.bx.set 6 u;simpa [fBox] using this,h.rt.other (p:=⟨bf,6,none⟩) (fun e=>hne e.symm) u,h.li.set h.bx (by decide) 6 u,h.fl.set h.bx (by decide) 6 u,h.fr.trans (Fr.set _ _ rfl),h.mv⟩
theorem DnS.next {atj:Int}{f:Nat}{e:En}{r:Ending}(h:DnS v w0 pa pc ja jc sa sc bf out tries li a0 a1 a2 lv a4 a5 a6 w fl (.slice none 0 0) fv wx)(hp:FlankP v w0 pa pc ja jc sa sc bf w.heap.size out tries li atj a0 a1 a2 lv a4 a5 a6 f (.slice none 0 0) fv [] fl e wx r wy):
 ∃ seen' fv',DnS v w0 pa pc ja jc sa sc bf out tries li a0 a1 a2 lv a4 a5 a6 w (fl ++ (v.fl li atj f [] e).2) seen' fv' wy:=by
 obtain ⟨_,s9,f9,g1,g2,g3,g4,g5,g6,g7,g8,g9⟩:=hp
 refine ⟨s9,f9,g1,g2,g4,g5,g6,h.fr.then g7 (fun i hi y=>?_),h.mv.trans g9 h.fr.size⟩
 rcases y with y | y | y | y
 ·exact y
 ·omega
 ·simp [Value.ownBlock] at y
 ·rcases h.mv i y with z | z
  ·simp [Value.ownBlock] at z
  ·omega
end
theorem rests_box {w wx:World}{bf:Nat}{F:Array Value}(h:Fr (fun k=>k=bf) w wx)(hb:Box w bf 55 F):Rests w wx:=Rests.of_fr h (fun k cur e _ hx hc he=>by
 subst hx
 have hb':w.heap[k]?=some (.cells F 55 (0,0)):=hb
 rw [hc] at hb'
 simp only [Option.some.injEq,Obj.cells.injEq] at hb'
 have e1:=hb'.2.1
 subst e1
 rcases he with h | h | h | h | h <;> exact absurd h (by decide))
theorem out_off {B:Nat}{w:World}{out:Value}{rs:List RtM}{bf:Nat}{F:Array Value}(h:OutAt B w out rs)(hb:Box w bf 55 F){g:Nat}(hg:out.ownBlock=some g):g≠bf:=by
 intro e
 subst e
 obtain ⟨_,cur,hc⟩:=h.block hg
 have hb':w.heap[g]?=some (.cells F 55 (0,0)):=hb
 rw [hc] at hb'
 simp only [Option.some.injEq,Obj.cells.injEq] at hb'
 exact absurd hb'.2.1 (by decide)
theorem row_shape {w:World}{B:Nat}{e:TypeId}{c:Nat}{v:Value}{n:Nat}{xs:List Value}(h:w.ownsRow B e c v n xs):∃ a cap,v=.slice a n cap:=by
 obtain ⟨_,⟨h1,h2⟩ | ⟨g,cap,cur,h1,_⟩⟩:=h
 ·exact ⟨none,0,by rw [h1,h2]⟩
 ·exact ⟨_,cap,h1⟩
theorem news_C {w:World}{e:TypeId}(vs:List Value){q:Nat}(hq:w.heap.size=q):∀ j u,vs[j]?=some u→(w.alloc (.cells vs.toArray e)).drew.cell? ((⟨q,0,none⟩:Addr).add j)=some u:=by
 subst hq
 intro j u hj
 have h1:(w.alloc (.cells vs.toArray e)).cell? ⟨w.heap.size,j,none⟩=some u:=by
  rw [World.cell?_alloc_at _ _ _ _ rfl]
  simpa using hj
 show (w.alloc (.cells vs.toArray e)).cell? _=_
 by_cases h0:j=0
 ·subst h0;simpa [Addr.add] using h1
 ·simpa [Addr.add,h0] using h1
theorem done_end {v:Ev}{w0:World}{pa:Option Addr}{pc:Nat}{ja:Option Addr}{jc:Nat}{sa:Option Addr}{sc:Nat}{bf:Nat}{out:Value}{tries:Int}{t:Tl}{sv lv xv qv ov:Value}{w:World}{seen seen0 fv:Value}{wx w1:World}{fr tt:Int}{ovl:List Rw}{rs:List RtM}{o:Obj}{v1:Value}{rows:List (List Value)}
 (h:DnS v w0 pa pc ja jc sa sc bf out tries t.li (.int .i64 fr) (.int .i64 tt) sv lv xv qv ov w (v.fls t.li t.li) seen fv wx) (hb:Box w bf 55 (fBox v pa pc ja jc sa sc out tries seen0)) (hbf:w0.heap.size≤bf) (_ho:OutAt w0.heap.size w out rs) (h1:Own w0.heap.size 100 2 w sv t.st) (h3:Own w0.heap.size 3 1 w xv t.cr) (h4:Own w0.heap.size 104 3 w qv t.pa) (h5:Own w0.heap.size 104 3 w ov ovl)
 (hl:rows.length=rs.length) (hr:∀ (i:Nat) (r:RtM),rs[i]?=some r→∃ row sv lv xv qv ov fv,rows[i]?=some row∧RtIs w0.heap.size wx row r sv lv xv qv ov fv) (hx:OutAt w0.heap.size wx out rs)
 (o1:w1.ownsRow w0.heap.size 64 8 v1 (rs.length+1) (rows.flatten ++ [.int .i64 fr,.int .i64 tt,sv,lv,xv,qv,ov,fv])) (ha:Appd (wx.alloc o).drew w1 out v1):
 ∃ out' seen',Box (w1.setCell ⟨bf,4,none⟩ v1) bf 55 (fBox v pa pc ja jc sa sc out' tries seen')∧OutAt w0.heap.size (w1.setCell ⟨bf,4,none⟩ v1) out' (rs ++ [v.fin fr tt t ovl])∧Fr (fun k=>k=bf∨out.ownBlock=some k) w (w1.setCell ⟨bf,4,none⟩ v1)∧Moved w out out':=by
 have b1:Box w1 bf 55 (fBox v pa pc ja jc sa sc out tries seen):=(h.bx.alloc o).drew.grown ha.fr (fun e=>out_off hx h.bx e rfl)
 have fx:Fr (fun k=>k=bf∨out.ownBlock=some k) wx (w1.setCell ⟨bf,4,none⟩ v1):=(((Fr.refl _ wx).alloc o).drew.trans (Fr.of_grown ha.fr (fun k e _=>.inr e))).trans (Fr.set _ _ (.inl rfl))
 have rx:Rests wx (w1.setCell ⟨bf,4,none⟩ v1):=Rests.of_fr fx (fun k cur e _ hk hc he=>by
  rcases hk with hk | hk
  ·subst hk
   have hb':wx.heap[k]?=some (.cells (fBox v pa pc ja jc sa sc out tries seen) 55 (0,0)):=h.bx
   rw [hc] at hb'
   simp only [Option.some.injEq,Obj.cells.injEq] at hb'
   have e1:=hb'.2.1
   subst e1
   rcases he with h | h | h | h | h <;> exact absurd h (by decide)
  ·obtain ⟨_,cur',hc'⟩:=hx.block hk
   rw [hc] at hc'
   simp only [Option.some.injEq,Obj.cells.injEq] at hc'
   have e1:=hc'.2.1
   subst e1
   rcases he with h | h | h | h | h <;> exact absurd h (by decide))
 have rw1:Rests w wx:=rests_box h.fr hb
 have hr2:RtIs w0.heap.size (w1.setCell ⟨bf,4,none⟩ v1) [.int .i64 fr,.int .i64 tt,sv,lv,xv,qv,ov,fv] (v.fin fr tt t ovl) sv lv xv qv ov fv:=
  ⟨rfl,(h1.rests rw1 (by simp)).rests rx (by simp),h.li.rests rx (by simp),(h3.rests rw1 (by simp)).rests rx (by simp),(h4.rests rw1 (by simp)).rests rx (by simp),(h5.rests rw1 (by simp)).rests rx (by simp),h.fl.rests rx (by simp)⟩
 refine ⟨v1,seen,?_,OutAt.snoc hl ?_ (fun i r hi=>?_) hr2,?_,?_⟩
 ·have:=b1.set 4 v1
  simpa [fBox] using this
 ·refine ownsRow_keep o1 fun g hg=>Below.heap_setCell w1 _ _ g (fun e=>?_)
  have e':g=bf:=e
  obtain ⟨_,⟨q1,_⟩ | ⟨g',cap,cur,q1,_,q3,_⟩⟩:=o1
  ·rw [q1] at hg;simp [Value.ownBlock] at hg
  ·rw [q1] at hg
   simp only [Value.ownBlock,Option.some.injEq] at hg
   subst hg
   subst e'
   have hb':w1.heap[g']?=some (.cells (fBox v pa pc ja jc sa sc out tries seen) 55 (0,0)):=b1
   rw [q3] at hb'
   simp only [Option.some.injEq,Obj.cells.injEq] at hb'
   exact absurd hb'.2.1 (by decide)
 ·obtain ⟨row,a,b,c,d,e,f,k1,k2⟩:=hr i r hi
  exact ⟨row,a,b,c,d,e,f,k1,k2.rests rx⟩
 ·exact (h.fr.mono (fun k _ hk=>Or.inl hk)).trans fx
 ·refine Moved.old ha.moved ?_
  show w.heap.size≤(wx.alloc o).heap.size
  have:=h.fr.size
  simp
  omega
set_option maxRecDepth 100000 in
set_option maxHeartbeats 8000000 in
theorem done56 {v:Ev}(ok:v.Ok){w0:World}{pa:Option Addr}{pc:Nat}{ja:Option Addr}{jc:Nat}{sa:Option Addr}{sc:Nat}(hN:NetIn w0 v pa ja sa){bf:Nat}(hbf:w0.heap.size≤bf)(out:Value)(tries:Int)(seen:Value)(rs:List RtM)(fr tt:Int)(t:Tl)(ovl:List Rw)(sv lv xv qv ov:Value)(w:World)
 (hB:Below w0.heap.size w0 w) (hb:Box w bf 55 (fBox v pa pc ja jc sa sc out tries seen)) (ho:OutAt w0.heap.size w out rs) (hrs:rs.length≤300) (h1:Own w0.heap.size 100 2 w sv t.st) (h2:Own w0.heap.size 136 2 w lv t.li) (h3:Own w0.heap.size 3 1 w xv t.cr) (h4:Own w0.heap.size 104 3 w qv t.pa) (h5:Own w0.heap.size 104 3 w ov ovl)
 (hli:LiOk v t.li) (hll:t.li.length≤200):
 Calls Tryz.prog 56 #[.pointer (some ⟨bf,0,none⟩),.agg #[.int .i64 fr,.int .i64 tt,sv,lv,xv,qv,ov,.slice none 0 0]] w fun e w'=>e=.returned (.tuple #[])∧∃ out' seen',Box w' bf 55 (fBox v pa pc ja jc sa sc out' tries seen')∧
  OutAt w0.heap.size w' out' (rs ++ [v.fin fr tt t ovl])∧Fr (fun k=>k=bf∨out.ownBlock=some k) w w'∧Moved w out out':=by
 obtain ⟨as1,cs1,hv⟩:=h1.val
 subst hv
 obtain ⟨al,cl,hv⟩:=h2.val
 subst hv
 obtain ⟨ax,cx,hv⟩:=h3.val
 subst hv
 obtain ⟨aq,cq,hv⟩:=h4.val
 subst hv
 obtain ⟨ao,co,hv⟩:=h5.val
 subst hv
 obtain ⟨au,cu,hv⟩:=ho.val
 subst hv
 have hn1:=ok.n1
 have hm1:=ok.m1
 have hbl:=hb.lt
 have hw0:=hB.size
 have HB:Hid (Below w0.heap.size w0 w):=hB
 have HO:Hid (OutAt w0.heap.size w (.slice au rs.length cu) rs):=ho
 have H1:Hid (Own w0.heap.size 100 2 w (.slice as1 t.st.length cs1) t.st):=h1
 have H2:Hid (Own w0.heap.size 136 2 w (.slice al t.li.length cl) t.li):=h2
 have H3:Hid (Own w0.heap.size 3 1 w (.slice ax t.cr.length cx) t.cr):=h3
 have H4:Hid (Own w0.heap.size 104 3 w (.slice aq t.pa.length cq) t.pa):=h4
 have H5:Hid (Own w0.heap.size 104 3 w (.slice ao ovl.length co) ovl):=h5
 have HN:Hid (NetIn w0 v pa ja sa):=hN
 have OK:Hid v.Ok:=ok
 have HLI:Hid (LiOk v t.li):=hli
 have HBX:Hid (Box w bf 55 (fBox v pa pc ja jc sa sc (.slice au rs.length cu) tries seen)):=hb
 have DS0:Hid (DnS v w0 pa pc ja jc sa sc bf (.slice au rs.length cu) tries t.li (.int .i64 fr) (.int .i64 tt) (.slice as1 t.st.length cs1) (.slice al t.li.length cl) (.slice ax t.cr.length cx) (.slice aq t.pa.length cq) (.slice ao ovl.length co) w [] seen (.slice none 0 0)
  (w.alloc (.cells #[.int .i64 fr,.int .i64 tt,.slice as1 t.st.length cs1,.slice al t.li.length cl,.slice ax t.cr.length cx,.slice aq t.pa.length cq,.slice ao ovl.length co,.slice none 0 0] 64))):=
  ⟨hB.alloc hB.size _,hb.alloc _,Box.new w 64 _,h2.alloc _,Own.nil _ _ _ _,Fr.of_below (bel1 w _),Moved.refl _ _⟩
 clear hB hb ho h1 h2 h3 h4 h5 hN ok hli
 go_enter Tryz.func56,Tryz.ntmps56
 go_wp2_with fail
 go_loopw [10] (fun i wr=>∃ (k:Nat) (seen:Value) (af:Option Addr) (cf:Nat),k≤t.li.length∧i=.int .i64 k∧Hid (DnS v w0 pa pc ja jc sa sc bf (.slice au rs.length cu) tries t.li (.int .i64 fr) (.int .i64 tt) (.slice as1 t.st.length cs1) (.slice al t.li.length cl) (.slice ax t.cr.length cx) (.slice aq t.pa.length cq) (.slice ao ovl.length co) w (v.fls t.li (t.li.take k)) seen (.slice af (v.fls t.li (t.li.take k)).length cf) wr)∧(v.fls t.li (t.li.take k)).length≤300*k) (fun i _=>t.li.length-(intOf i).toNat)
 case atStart=>exact ⟨0,seen,none,0,Nat.zero_le _,rfl,DS0,by simp [Ev.fls]⟩
 case round=>
  obtain ⟨k,seen1,af,cf,hk,rfl,DS,hfl⟩:=hrel
  have zr:=DS.out.bel.size
  have zf:=DS.out.fr.size
  by_cases hlt:k<t.li.length
  ·obtain ⟨j,x,hjm,hkd,hx,hrow,hr0,hr1⟩:=HLI.out.row hlt
   have hne':(v.J j).ne=3:=by have:=OK.out.kd j hjm;omega
   have hLk:Own w0.heap.size 136 2 wr (.slice al t.li.length cl) t.li:=DS.out.li
   obtain ⟨al3,cl3,hv3,hLs3⟩:=hLk.ls.val
   simp only [Value.slice.injEq] at hv3
   obtain ⟨rfl,_,rfl⟩:=hv3
   obtain ⟨b3,off3,hal3,_,hb3,hc3⟩:=hLs3 (by omega)
   subst hal3
   have c0:wr.cell? ⟨b3,off3+k*2,none⟩=some (.int .i64 j):=by rw [← hr0];exact hc3 k hlt 0 (by omega)
   have c1:wr.cell? ⟨b3,off3+k*2+1,none⟩=some (.int .i64 x):=by rw [← hr1];exact hc3 k hlt 1 (by omega)
   clear hc3
   obtain ⟨b2,off2,hja2,_,hb2,hc2⟩:=HN.out.j (by omega)
   obtain ⟨ea,ec,d0',d1',d2',hEs⟩:=hc2 j hjm
   subst hja2
   rw [hne'] at d2' hEs
   obtain ⟨b4,off4,rfl,_,hb4,hc4⟩:=hEs (by omega)
   have m1:wr.cell? ⟨bf,1,none⟩=some (.slice (some ⟨b2,off2,none⟩) v.m jc):=DS.out.bx.cell 1
   have m6:wr.cell? ⟨bf,6,none⟩=some seen1:=DS.out.bx.cell 6
   have n6:=DS.out.bx.free 6
   have d2:=(DS.out.bel.cell (p:=⟨b2,off2+j*3+2,none⟩) hb2).trans d2'
   have hji:(j:Int)<(v.m:Int):=by omega
   have hzb:bf<wr.heap.size:=DS.out.bx.lt
   have m1':∀ o,(wr.alloc o).cell? ⟨bf,1,none⟩=some (.slice (some ⟨b2,off2,none⟩) v.m jc):=fun o=>(DS.out.bx.alloc o).cell 1
   have d2a:∀ o,(wr.alloc o).cell? ⟨b2,off2+j*3+2,none⟩=some (.slice (some ⟨b4,off4,none⟩) 3 ec):=fun o=>by rw [World.cell?_alloc_past _ _ _ (by show b2<wr.heap.size;omega)];exact d2
   have m6a:∀ o,(wr.alloc o).cell? ⟨bf,6,none⟩=some seen1:=fun o=>(DS.out.bx.alloc o).cell 6
   have n6a:∀ o,(wr.alloc o).frozen? ⟨bf,6,none⟩=false:=fun o=>(DS.out.bx.alloc o).free 6
   clear d0' d1' d2' hc2
   go_wp2_with fail
   go_quiet (fail)
   go_wp2_with fail
   have hbw:bf<w.heap.size:=hbl
   have zrt:w.heap.size<wr.heap.size:=DS.out.rt.lt
   have hwp1:IntKind.i64.wrap 1=1:=rfl
   have hwp2:IntKind.i64.wrap 2=2:=rfl
   have DS5:=(DS.out.mono (below_drewN (bel1 wr (.cells #[.int .i64 j,.int .i64 x] 136)) nq)).clear hbf (by omega) (.slice none 0 0)
   have xb:Box ((wr.alloc (.cells #[.int .i64 j,.int .i64 x] 136)).drewN nq) wr.heap.size 136 #[.int .i64 j,.int .i64 x]:=(Box.new wr 136 _).mono (below_drewN (Below.refl (wr.alloc (.cells #[.int .i64 j,.int .i64 x] 136)).heap.size _) nq) lr
   have xb6:=xb.other (p:=⟨bf,6,none⟩) (by show wr.heap.size≠bf;omega) (.slice none 0 0)
   have z6:(((wr.alloc (.cells #[.int .i64 j,.int .i64 x] 136)).drewN nq).setCell ⟨bf,6,none⟩ (.slice none 0 0)).heap.size=wr.heap.size+1:=by
    rw [size_setc]
    have q1:=(below_drewN (Below.refl 0 (wr.alloc (.cells #[.int .i64 j,.int .i64 x] 136))) nq).size
    have q2:=(drewN_size (wr.alloc (.cells #[.int .i64 j,.int .i64 x] 136)) nq)
    rw [q2]
    simp
   generalize ((wr.alloc (.cells #[.int .i64 j,.int .i64 x] 136)).drewN nq).setCell ⟨bf,6,none⟩ (.slice none 0 0)=w6 at *
   have DS6:Hid (DnS v w0 pa pc (some ⟨b2,off2,none⟩) jc sa sc bf (.slice au rs.length cu) tries t.li (.int .i64 fr) (.int .i64 tt) (.slice as1 t.st.length cs1) (.slice (some ⟨b3,off3,none⟩) t.li.length cl) (.slice ax t.cr.length cx) (.slice aq t.pa.length cq) (.slice ao ovl.length co) w (v.fls t.li (t.li.take k)) (.slice none 0 0) (.slice af (v.fls t.li (t.li.take k)).length cf) w6):=DS5
   have x0:w6.cell? ⟨wr.heap.size,0,none⟩=some (.int .i64 j):=xb6.cell 0
   have x1:w6.cell? ⟨wr.heap.size,1,none⟩=some (.int .i64 x):=xb6.cell 1
   have xl:wr.heap.size<w6.heap.size:=by omega
   have hfo:∀ g,(Value.slice af (v.fls t.li (t.li.take k)).length cf).ownBlock=some g→g<wr.heap.size:=fun g hg=>(DS.out.fl.lt hg).2
   have HFO:Hid (∀ g,(Value.slice af (v.fls t.li (t.li.take k)).length cf).ownBlock=some g→g<wr.heap.size):=hfo
   have HTK:Hid (t.li.take (k+1)=t.li.take k ++ [[(j:Int),(x:Int)]]):=by
    show t.li.take (k+1)=_
    rw [List.take_add_one,hrow]
    rfl
   clear DS5 xb xb6 hfo DS m1 m6 n6 m1' d2a m6a n6a d2 c0 c1 hLk hLs3 hr0 hr1 hrow
   rcases hx with rfl | rfl
   ·have heo:=OK.out.enOk hjm (q:=2) (by omega)
    have y0:w6.cell? ⟨b4,off4+4,none⟩=some (.int .i64 ((v.J j).E 2).pc):=(DS6.out.bel.cell (p:=⟨b4,off4+4,none⟩) hb4).trans (hc4 2 (by omega)).1
    have y1:w6.cell? ⟨b4,off4+4+1,none⟩=some (.int .i64 ((v.J j).E 2).sd):=(DS6.out.bel.cell (p:=⟨b4,off4+4+1,none⟩) hb4).trans (hc4 2 (by omega)).2
    clear hc4
    have C7:=flank87 OK.out HN.out (tries:=tries) (out:=.slice au rs.length cu) (pc:=pc) (jc:=jc) (sc:=sc) (li:=t.li) (atj:=(j:Int)) (a0:=.int .i64 fr) (a1:=.int .i64 tt) (a2:=.slice as1 t.st.length cs1) (lv:=.slice (some ⟨b3,off3,none⟩) t.li.length cl) (a4:=.slice ax t.cr.length cx) (a5:=.slice aq t.pa.length cq) (a6:=.slice ao ovl.length co) (by omega) hbf hw0 (by omega:bf≠w.heap.size) (2*v.n+1)
     (.slice none 0 0) (.slice af (v.fls t.li (t.li.take k)).length cf) [] (v.fls t.li (t.li.take k)) ((v.J j).E 2) w6.drew heo DS6.out.bel.drew DS6.out.bx.drew (Own.nil _ _ _ _) DS6.out.rt.drew DS6.out.li.drew DS6.out.fl.drew (Once.nil _ _ _) (by simp) (by simp;omega)
    have HC7:Hid (Calls Tryz.prog 87 _ _ _):=C7
    clear C7
    go_region_held3 (fun w'=>w'.cell? ⟨wr.heap.size,0,none⟩=some (.int .i64 j)∧w'.cell? ⟨wr.heap.size,1,none⟩=some (.int .i64 1)∧w'.cell? ⟨b4,off4+4,none⟩=some (.int .i64 ((v.J j).E 2).pc)∧w'.cell? ⟨b4,off4+4+1,none⟩=some (.int .i64 ((v.J j).E 2).sd)) (go_keep) (first | (go_at_call 87;refine HC7.out.mono ?_;intro e w7 P7;have p1:=P7.1;subst p1;have hx7:w7.heap[wr.heap.size]?=w6.heap[wr.heap.size]?:=P7.frame.block wr.heap.size xl (fun y=>y.elim (fun y=>by omega) (fun y=>y.elim (fun y=>by omega) (fun y=>y.elim (fun y=>by simp [Value.ownBlock] at y) (fun y=>by have:=HFO.out _ y;omega))));have k0:=(World.cell?_of_block (w:=w6) (a:=⟨wr.heap.size,0,none⟩) hx7).trans x0;have k1:=(World.cell?_of_block (w:=w6) (a:=⟨wr.heap.size,1,none⟩) hx7).trans x1;have k2:=(P7.below.cell (p:=⟨b4,off4+4,none⟩) hb4).trans ((DS6.out.bel.cell (p:=⟨b4,off4+4,none⟩) hb4).symm.trans y0);have k3:=(P7.below.cell (p:=⟨b4,off4+4+1,none⟩) hb4).trans ((DS6.out.bel.cell (p:=⟨b4,off4+4+1,none⟩) hb4).symm.trans y1)))
    clear HC7 k0 k1 k2 k3
    obtain ⟨s8,f8,DS7⟩:=(DS6.out.mono (wy:=w6.drew) (Below.refl w6.heap.size w6).drew).next P7
    obtain ⟨af8,cf8,hv8⟩:=DS7.fl.val
    subst hv8
    have HFE:v.fls t.li (t.li.take k) ++ (v.fl t.li (j:Int) (2*v.n+1) [] ((v.J j).E 2)).2=v.fls t.li (t.li.take (k+1)):=by
     rw [HTK.out,fls_snoc]
     rfl
    have hgl:=(fl_grow OK.out t.li (j:Int) (2*v.n+1) [] ((v.J j).E 2) (Once.nil _ _ _) heo)
    have hg2:=hgl.1.len
    have hg3:=hgl.2.2.1
    rw [HFE] at DS7
    have hfl2:(v.fls t.li (t.li.take (k+1))).length≤300*(k+1):=by
     rw [← HFE,List.length_append]
     simp only [List.length_nil] at hg3
     omega
    have DS8:Hid (DnS v w0 pa pc (some ⟨b2,off2,none⟩) jc sa sc bf (.slice au rs.length cu) tries t.li (.int .i64 fr) (.int .i64 tt) (.slice as1 t.st.length cs1) (.slice (some ⟨b3,off3,none⟩) t.li.length cl) (.slice ax t.cr.length cx) (.slice aq t.pa.length cq) (.slice ao ovl.length co) w (v.fls t.li (t.li.take (k+1))) s8 (.slice af8 (v.fls t.li (t.li.take (k+1))).length cf8) w7):=by
     exact DS7
    clear DS7 P7 HFE hgl hg2 hg3 DS6 HTK HFO
    go_wp2_with fail
    go_roundw
    case rel=>exact ⟨k+1,s8,af8,cf8,by omega,by go_num,DS8,hfl2⟩
    case measure=>simp [intOf];omega
   ·have heo:=OK.out.enOk hjm (q:=1) (by omega)
    have y0:w6.cell? ⟨b4,off4+2,none⟩=some (.int .i64 ((v.J j).E 1).pc):=(DS6.out.bel.cell (p:=⟨b4,off4+2,none⟩) hb4).trans (hc4 1 (by omega)).1
    have y1:w6.cell? ⟨b4,off4+2+1,none⟩=some (.int .i64 ((v.J j).E 1).sd):=(DS6.out.bel.cell (p:=⟨b4,off4+2+1,none⟩) hb4).trans (hc4 1 (by omega)).2
    clear hc4
    have C7:=flank87 OK.out HN.out (tries:=tries) (out:=.slice au rs.length cu) (pc:=pc) (jc:=jc) (sc:=sc) (li:=t.li) (atj:=(j:Int)) (a0:=.int .i64 fr) (a1:=.int .i64 tt) (a2:=.slice as1 t.st.length cs1) (lv:=.slice (some ⟨b3,off3,none⟩) t.li.length cl) (a4:=.slice ax t.cr.length cx) (a5:=.slice aq t.pa.length cq) (a6:=.slice ao ovl.length co) (by omega) hbf hw0 (by omega:bf≠w.heap.size) (2*v.n+1)
     (.slice none 0 0) (.slice af (v.fls t.li (t.li.take k)).length cf) [] (v.fls t.li (t.li.take k)) ((v.J j).E 1) w6.drew heo DS6.out.bel.drew DS6.out.bx.drew (Own.nil _ _ _ _) DS6.out.rt.drew DS6.out.li.drew DS6.out.fl.drew (Once.nil _ _ _) (by simp) (by simp;omega)
    have HC7:Hid (Calls Tryz.prog 87 _ _ _):=C7
    clear C7
    go_region_held3 (fun w'=>w'.cell? ⟨wr.heap.size,0,none⟩=some (.int .i64 j)∧w'.cell? ⟨wr.heap.size,1,none⟩=some (.int .i64 2)∧w'.cell? ⟨b4,off4+2,none⟩=some (.int .i64 ((v.J j).E 1).pc)∧w'.cell? ⟨b4,off4+2+1,none⟩=some (.int .i64 ((v.J j).E 1).sd)) (go_keep) (first | (go_at_call 87;refine HC7.out.mono ?_;intro e w7 P7;have p1:=P7.1;subst p1;have hx7:w7.heap[wr.heap.size]?=w6.heap[wr.heap.size]?:=P7.frame.block wr.heap.size xl (fun y=>y.elim (fun y=>by omega) (fun y=>y.elim (fun y=>by omega) (fun y=>y.elim (fun y=>by simp [Value.ownBlock] at y) (fun y=>by have:=HFO.out _ y;omega))));have k0:=(World.cell?_of_block (w:=w6) (a:=⟨wr.heap.size,0,none⟩) hx7).trans x0;have k1:=(World.cell?_of_block (w:=w6) (a:=⟨wr.heap.size,1,none⟩) hx7).trans x1;have k2:=(P7.below.cell (p:=⟨b4,off4+2,none⟩) hb4).trans ((DS6.out.bel.cell (p:=⟨b4,off4+2,none⟩) hb4).symm.trans y0);have k3:=(P7.below.cell (p:=⟨b4,off4+2+1,none⟩) hb4).trans ((DS6.out.bel.cell (p:=⟨b4,off4+2+1,none⟩) hb4).symm.trans y1)))
    clear HC7 k0 k1 k2 k3
    obtain ⟨s8,f8,DS7⟩:=(DS6.out.mono (wy:=w6.drew) (Below.refl w6.heap.size w6).drew).next P7
    obtain ⟨af8,cf8,hv8⟩:=DS7.fl.val
    subst hv8
    have HFE:v.fls t.li (t.li.take k) ++ (v.fl t.li (j:Int) (2*v.n+1) [] ((v.J j).E 1)).2=v.fls t.li (t.li.take (k+1)):=by
     rw [HTK.out,fls_snoc]
     rfl
    have hgl:=(fl_grow OK.out t.li (j:Int) (2*v.n+1) [] ((v.J j).E 1) (Once.nil _ _ _) heo)
    have hg2:=hgl.1.len
    have hg3:=hgl.2.2.1
    rw [HFE] at DS7
    have hfl2:(v.fls t.li (t.li.take (k+1))).length≤300*(k+1):=by
     rw [← HFE,List.length_append]
     simp only [List.length_nil] at hg3
     omega
    have DS8:Hid (DnS v w0 pa pc (some ⟨b2,off2,none⟩) jc sa sc bf (.slice au rs.length cu) tries t.li (.int .i64 fr) (.int .i64 tt) (.slice as1 t.st.length cs1) (.slice (some ⟨b3,off3,none⟩) t.li.length cl) (.slice ax t.cr.length cx) (.slice aq t.pa.length cq) (.slice ao ovl.length co) w (v.fls t.li (t.li.take (k+1))) s8 (.slice af8 (v.fls t.li (t.li.take (k+1))).length cf8) w7):=by
     exact DS7
    clear DS7 P7 HFE hgl hg2 hg3 DS6 HTK HFO
    go_wp2_with fail
    go_roundw
    case rel=>exact ⟨k+1,s8,af8,cf8,by omega,by go_num,DS8,hfl2⟩
    case measure=>simp [intOf];omega
  ·obtain rfl:k=t.li.length:=by omega
   rw [List.take_length] at DS hfl
   obtain ⟨i8,e81,e82,e83,e84⟩:=info_parts infoRoute
   have rw1:Rests w wr:=rests_box DS.out.fr HBX.out
   have HO1:OutAt w0.heap.size wr (.slice au rs.length cu) rs:=HO.out.keep rw1 (fun g hg=>DS.out.fr.block g (HO.out.lt hg) (fun e=>out_off HO.out HBX.out hg e))
   have HO1':Hid (OutAt w0.heap.size wr (.slice au rs.length cu) rs):=HO1
   obtain ⟨rows,hl,hown,hrs'⟩:=HO1
   have HRS:Hid (∀ (i:Nat) (r:RtM),rs[i]?=some r→∃ row sv lv xv qv ov fv,rows[i]?=some row∧RtIs w0.heap.size wr row r sv lv xv qv ov fv):=hrs'
   have HOW:Hid (wr.ownsRow w0.heap.size 64 8 (.slice au rs.length cu) rs.length rows.flatten):=hown
   clear hrs' hown
   have m4:wr.cell? ⟨bf,4,none⟩=some (.slice au rs.length cu):=DS.out.bx.cell 4
   have m4':∀ o,(wr.alloc o).cell? ⟨bf,4,none⟩=some (.slice au rs.length cu):=fun o=>(DS.out.bx.alloc o).cell 4
   have q0:wr.cell? ⟨w.heap.size,0,none⟩=some (.int .i64 fr):=DS.out.rt.cell 0
   have q1:wr.cell? ⟨w.heap.size,1,none⟩=some (.int .i64 tt):=DS.out.rt.cell 1
   have q2:wr.cell? ⟨w.heap.size,2,none⟩=some (.slice as1 t.st.length cs1):=DS.out.rt.cell 2
   have q3:wr.cell? ⟨w.heap.size,3,none⟩=some (.slice al t.li.length cl):=DS.out.rt.cell 3
   have q4:wr.cell? ⟨w.heap.size,4,none⟩=some (.slice ax t.cr.length cx):=DS.out.rt.cell 4
   have q5:wr.cell? ⟨w.heap.size,5,none⟩=some (.slice aq t.pa.length cq):=DS.out.rt.cell 5
   have q6:wr.cell? ⟨w.heap.size,6,none⟩=some (.slice ao ovl.length co):=DS.out.rt.cell 6
   have q7:wr.cell? ⟨w.heap.size,7,none⟩=some (.slice af (v.fls t.li t.li).length cf):=DS.out.rt.cell 7
   go_wp2_with fail
   go_region_law (refine step_appC rfl (.tmp 42) (.tmp 44) 29 rfl w0.heap.size 64 i8 _ 8 160 Tryz.underlying29 e81 e82 e83 e84 rfl (by decide) (.slice au rs.length cu) rs.length rows.flatten (by simp [Act.eval]) (ownsRow_keep HOW.out (fun g hg=>Below.heap_alloc wr _ g (HO1'.out.lt hg))) ⟨wr.heap.size,0,none⟩ 1 1 [.int .i64 fr,.int .i64 tt,.slice as1 t.st.length cs1,.slice al t.li.length cl,.slice ax t.cr.length cx,.slice aq t.pa.length cq,.slice ao ovl.length co,.slice af (v.fls t.li t.li).length cf] (by simp [Act.eval]) rfl (by decide) (news_C [.int .i64 fr,.int .i64 tt,.slice as1 t.st.length cs1,.slice al t.li.length cl,.slice ax t.cr.length cx,.slice aq t.pa.length cq,.slice ao ovl.length co,.slice af (v.fls t.li t.li).length cf] rfl) (by intro u hu;simp at hu;rcases hu with rfl | rfl | rfl | rfl | rfl | rfl | rfl | rfl <;> rfl) (by simp [maxLen];omega) (by omega) (by simp;omega) ?_;intro v1 w1 ho1 hap;have p1:Box w1 bf 55 (fBox v pa pc ja jc sa sc (.slice au rs.length cu) tries seen1):=(DS.out.bx.alloc _).drew.grown hap.fr (fun e=>out_off HO1'.out DS.out.bx e rfl);have t1:=p1.free 4;have u1:w1.cell? ⟨bf,4,none⟩=some (.slice au rs.length cu):=p1.cell 4;obtain ⟨a1',c1',rfl⟩:=row_shape ho1)
   all_goals
    have FIN:=done_end DS.out HBX.out hbf HO.out H1.out H3.out H4.out H5.out hl HRS.out HO1'.out ho1 hap
    have HFIN:Hid _:=FIN
    clear FIN ho1 hap
    go_wp2_with fail
    first
     | (go_end0;exact ⟨rfl,HFIN.out⟩)
     | (refine bodyPost_ret (results_none rfl _ _ _) rfl ?_;exact ⟨rfl,HFIN.out⟩)
theorem step_call {P:Program}{ops:Array Oper}{o:Oper}{a:Act}{w:World}{K:Act→World→Prop}{Q:Exit→Act→World→Prop}{E:Prop}(hgd:o.guard=none)(f:Nat)(args:Array Value)(he:(execOp a.eval o).run P w=.ok (.enter f args) w){v:Value}{S:World→Prop}
 (hc:Calls P f args w (fun e w'=>e=.returned v∧S w')) (h:∀ w',S w'→K (a.put o.dst v) w'):if Region.wanted o (yielded ops a.tmps)=true then Oper.wp P o a w K Q else E:=by
 have hwt:Region.wanted o (yielded ops a.tmps)=true:=by simp [Region.wanted,hgd]
 rw [if_pos hwt]
 unfold Oper.wp
 rw [he]
 refine Calls.mono hc ?_
 rintro e w' ⟨rfl,hS⟩
 exact h w' hS
structure Res (t:Nat)(rs:List RtM)(L:List (Option RtM))(t':Nat)(rs':List RtM):Prop where
 fit:t+L.length≤20000→rs.length+(routesOf L).length≤300→t'=t+L.length∧rs'=rs ++ routesOf L
 over:¬(t+L.length≤20000∧rs.length+(routesOf L).length≤300)→20000<t'∨300<rs'.length
 tle:t≤t'
 rle:rs.length≤rs'.length
theorem Res.nil (t:Nat)(rs:List RtM)(h:t≤20000)(h2:rs.length≤300):Res t rs [] t rs:=⟨fun _ _=>⟨by simp,by simp [routesOf]⟩,fun hn=>absurd ⟨by simpa using h,by simpa [routesOf] using h2⟩ hn,Nat.le_refl _,Nat.le_refl _⟩
theorem Res.nil' (t:Nat)(rs:List RtM):Res t rs [] t rs:=⟨fun _ _=>⟨by simp,by simp [routesOf]⟩,fun hn=>by
 simp only [List.length_nil,Nat.add_zero,routesOf,List.filterMap_nil] at hn
 omega,Nat.le_refl _,Nat.le_refl _⟩
theorem Res.app {t t1 t2:Nat}{rs rs1 rs2:List RtM}{L1 L2:List (Option RtM)}(h1:Res t rs L1 t1 rs1)(h2:Res t1 rs1 L2 t2 rs2):Res t rs (L1 ++ L2) t2 rs2:=by
 have hr:routesOf (L1 ++ L2)=routesOf L1 ++ routesOf L2:=by simp [routesOf]
 have hl:(L1 ++ L2).length=L1.length+L2.length:=by simp
 have hrl:(routesOf (L1 ++ L2)).length=(routesOf L1).length+(routesOf L2).length:=by rw [hr];simp
 have a1:=h1.tle
 have a2:=h2.tle
 have a3:=h1.rle
 have a4:=h2.rle
 refine ⟨fun hf hg=>?_,fun hn=>?_,by omega,by omega⟩
 ·obtain ⟨e1,e2⟩:=h1.fit (by omega) (by omega)
  subst e1 e2
  obtain ⟨e3,e4⟩:=h2.fit (by omega) (by simp only [List.length_append];omega)
  exact ⟨by omega,by rw [e4,hr,List.append_assoc]⟩
 ·by_cases hf1:t+L1.length≤20000∧rs.length+(routesOf L1).length≤300
  ·obtain ⟨e1,e2⟩:=h1.fit hf1.1 hf1.2
   subst e1 e2
   refine h2.over (fun hf2=>hn ⟨by omega,?_⟩)
   have:=hf2.2
   simp only [List.length_append] at this
   omega
  ·rcases h1.over hf1 with h | h
   ·exact .inl (by omega)
   ·exact .inr (by omega)
theorem Res.none (t:Nat)(rs:List RtM):Res t rs [none] (t+1) rs:=⟨fun _ _=>⟨by simp,by simp [routesOf]⟩,fun hn=>by
 simp [routesOf] at hn
 omega,by omega,Nat.le_refl _⟩
theorem Res.some (t:Nat)(rs:List RtM)(r:RtM):Res t rs [some r] (t+1) (rs ++ [r]):=⟨fun _ _=>⟨by simp,by simp [routesOf]⟩,fun hn=>by
 simp [routesOf] at hn
 simp
 omega,by omega,by simp⟩
theorem Res.stop {t:Nat}{rs:List RtM}{L:List (Option RtM)}(hL:0<L.length)(h:300<rs.length∨20000<t+1):Res t rs L (t+1) rs:=⟨fun h1 h2=>by omega,fun _=>by omega,by omega,Nat.le_refl _⟩
def bnd (t f:Nat):Nat:=if t≤20000 then 20001+f else t+1
theorem walk_pos (v:Ev)(fr:Int)(f:Nat)(t:Tl)(p:Nat)(way far:Int):0<(v.walk fr (f+1) t p way far).length:=by
 simp only [Ev.walk]
 split
 ·simp
 ·split
  ·simp
  ·split
   ·simp
   ·simp
section
variable (v:Ev) (w0:World) (pa:Option Addr) (pc:Nat) (ja:Option Addr) (jc:Nat) (sa:Option Addr) (sc:Nat) (bf:Nat)
structure TlOk (t:Tl):Prop where
 st:Once 1 (-1) v.n t.st
 li:LiOk v t.li
 ll:t.li.length≤t.st.length
 cl:t.cr.length≤t.st.length
 pl:t.pa.length≤t.st.length
structure TlIn (B:Nat)(w:World)(t:Tl)(sv lv xv qv:Value):Prop where
 s:Own B 100 2 w sv t.st
 l:Own B 136 2 w lv t.li
 x:Own B 3 1 w xv t.cr
 q:Own B 104 3 w qv t.pa
def WalkP (fr:Int)(f:Nat)(out:Value)(tries:Nat)(rs:List RtM)(t:Tl)(p:Nat)(way far:Int)(w:World)(e:Ending)(w':World):Prop:=
 e=.returned (.tuple #[])∧∃ (out' seen':Value) (tries':Nat) (rs':List RtM),Box w' bf 55 (fBox v pa pc ja jc sa sc out' tries' seen')∧OutAt w0.heap.size w' out' rs'∧Fr (fun k=>k=bf∨out.ownBlock=some k) w w'∧Moved w out out'∧rs'.length≤301∧tries'≤bnd tries f∧
  Res tries rs (v.walk fr f t p way far) tries' rs'
def WalkC (fr:Int)(f:Nat):Prop:=
 ∀ (out seen:Value) (tries:Nat) (rs:List RtM) (t:Tl) (sv lv xv qv:Value) (p:Nat) (way far:Int) (w:World),Below w0.heap.size w0 w→Box w bf 55 (fBox v pa pc ja jc sa sc out tries seen)→OutAt w0.heap.size w out rs→rs.length≤301→tries≤1000000→TlIn w0.heap.size w t sv lv xv qv→TlOk v t→p<v.n→(way=1∨way=-1)→
  0≤far→far<(v.P p).ln→2*v.n+1≤f+t.st.length→
  Calls Tryz.prog 22 #[.pointer (some ⟨bf,0,none⟩),.agg #[.int .i64 fr,.int .i64 0,sv,lv,xv,qv,.slice none 0 0,.slice none 0 0],.int .i64 p,.int .i64 way,.int .i64 far] w (WalkP v w0 pa pc ja jc sa sc bf fr f out tries rs t p way far w)
end
theorem across59 (nm:ByteArray)(ea:Option Addr)(ne ec:Nat)(E:Nat→En)(kd:Int)(q:Nat)(w:World)(hk:kd=2∨kd=3∨kd=4)(hne:(ne:Int)=kd)(hq:q<ne)(hE:EsAt 0 w ea ne E):
 Calls Tryz.prog 59 #[.agg #[.int .i64 kd,.string nm,.slice ea ne ec],.int .i64 q] w fun e w'=>∃ a,e=.returned (.slice a (acrossF kd.toNat q).length (acrossF kd.toNat q).length)∧EsAt w.heap.size w' a (acrossF kd.toNat q).length (fun i=>E ((acrossF kd.toNat q).getD i 0))∧Below w.heap.size w w':=by
 rcases hk with rfl | rfl | rfl
 ·have hn:ne=2:=by omega
  subst hn
  rcases (show q=0∨q=1 by omega) with rfl | rfl
  ·exact across80_2_0 nm ea 2 ec E w rfl hE
  ·exact across80_2_1 nm ea 2 ec E w rfl hE
 ·have hn:ne=3:=by omega
  subst hn
  rcases (show q=0∨q=1∨q=2 by omega) with rfl | rfl | rfl
  ·exact across80_3_0 nm ea 3 ec E w rfl hE
  ·exact across80_3_1 nm ea 3 ec E w rfl hE
  ·exact across80_3_2 nm ea 3 ec E w rfl hE
 ·have hn:ne=4:=by omega
  subst hn
  rcases (show q=0∨q=1∨q=2∨q=3 by omega) with rfl | rfl | rfl | rfl
  ·exact across80_4_0 nm ea 4 ec E w rfl hE
  ·exact across80_4_1 nm ea 4 ec E w rfl hE
  ·exact across80_4_2 nm ea 4 ec E w rfl hE
  ·exact across80_4_3 nm ea 4 ec E w rfl hE
structure WkS (v:Ev)(w0:World)(pa:Option Addr)(pc:Nat)(ja:Option Addr)(jc:Nat)(sa:Option Addr)(sc:Nat)(bf:Nat)(out:Value)(w:World)(N:Nat)(t:Tl)(tries:Nat)(seen:Value)(R:Array Value)(sv lv xv qv:Value)(wx:World):Prop where
 bel:Below w0.heap.size w0 wx
 bx:Box wx bf 55 (fBox v pa pc ja jc sa sc out tries seen)
 rt:Box wx w.heap.size 64 R
 tl:TlIn N wx t sv lv xv qv
 fr:Fr (fun k=>k=bf) w wx
theorem TlIn.mono {B:Nat}{w w':World}{t:Tl}{sv lv xv qv:Value}{N:Nat}(h:TlIn B w t sv lv xv qv)(hb:Below N w w')(hN:w.heap.size≤N):TlIn B w' t sv lv xv qv:=
 ⟨h.s.mono lr hb hN,h.l.mono lr hb hN,h.x.mono lr hb hN,h.q.mono lr hb hN⟩
theorem Rests.of_below {w w':World}(h:Below w.heap.size w w'):Rests w w':=⟨h.size,fun k _ _ hk _=>h.block k (Array.getElem?_eq_some_iff.1 hk).1⟩
theorem OutAt.mono {B:Nat}{w w':World}{v:Value}{rs:List RtM}(h:OutAt B w v rs)(hb:Below w.heap.size w w'):OutAt B w' v rs:=h.keep (Rests.of_below hb) fun g hg=>hb.block g (h.lt hg)
theorem OutAt.set {B:Nat}{w:World}{v:Value}{rs:List RtM}(h:OutAt B w v rs){q:Nat}{T:TypeId}{F:Array Value}(hb:Box w q T F)(hT:T=55∨T=64)(hq:v.ownBlock≠some q)(j:Nat)(u:Value):OutAt B (w.setCell ⟨q,j,none⟩ u) v rs:=by
 refine h.keep ⟨by rw [size_setc];exact Nat.le_refl _,fun k cur e hk he=>Below.heap_setCell w _ _ k (fun e'=>?_)⟩ fun g hg=>Below.heap_setCell w _ _ g (fun e'=>hq (by rw [hg];exact congrArg some e'))
 have e'':k=q:=e'
 subst e''
 have hb':w.heap[k]?=some (.cells F T (0,0)):=hb
 rw [hk] at hb'
 simp only [Option.some.injEq,Obj.cells.injEq] at hb'
 have e1:=hb'.2.1
 subst e1
 rcases hT with rfl | rfl
 ·rcases he with h | h | h | h | h <;> exact absurd h (by decide)
 ·rcases he with h | h | h | h | h <;> exact absurd h (by decide)
theorem TlIn.set {B:Nat}{w:World}{t:Tl}{sv lv xv qv:Value}(h:TlIn B w t sv lv xv qv){q:Nat}{T:TypeId}{F:Array Value}(hb:Box w q T F)(hT:T=55∨T=64)(j:Nat)(u:Value):TlIn B (w.setCell ⟨q,j,none⟩ u) t sv lv xv qv:=by
 rcases hT with rfl | rfl
 ·exact ⟨h.s.set hb (by decide) j u,h.l.set hb (by decide) j u,h.x.set hb (by decide) j u,h.q.set hb (by decide) j u⟩
 ·exact ⟨h.s.set hb (by decide) j u,h.l.set hb (by decide) j u,h.x.set hb (by decide) j u,h.q.set hb (by decide) j u⟩
section
variable {v:Ev} {w0:World} {pa:Option Addr} {pc:Nat} {ja:Option Addr} {jc:Nat} {sa:Option Addr} {sc:Nat} {bf:Nat} {out:Value} {rs:List RtM} {w:World} {N:Nat} {t:Tl} {tries:Nat} {seen:Value} {R:Array Value} {sv lv xv qv:Value} {wx wy:World}
theorem WkS.mono (h:WkS v w0 pa pc ja jc sa sc bf out w N t tries seen R sv lv xv qv wx)(hb:Below wx.heap.size wx wy):WkS v w0 pa pc ja jc sa sc bf out w N t tries seen R sv lv xv qv wy:=
 ⟨h.bel.trans (hb.mono h.bel.size),h.bx.mono hb lr,h.rt.mono hb lr,h.tl.mono hb lr,h.fr.trans (Fr.of_below hb)⟩
theorem walk_stop {fr:Int}{f:Nat}{p:Nat}{way far:Int}(hb:Box w bf 55 (fBox v pa pc ja jc sa sc out tries seen))(ho:OutAt w0.heap.size w out rs)(_:w0.heap.size≤bf)(hr:rs.length≤301)(h:Res tries rs (v.walk fr (f+1) t p way far) (tries+1) rs)(o:Obj):
 WalkP v w0 pa pc ja jc sa sc bf fr (f+1) out tries rs t p way far w (.returned (.tuple #[])) ((w.setCell ⟨bf,5,none⟩ (.int .i64 ((tries:Int)+1))).alloc o):=by
 refine ⟨rfl,out,seen,tries+1,rs,?_,(ho.set hb (.inl rfl) (fun e=>out_off ho hb e rfl) 5 _).mono (bel1 _ o),((Fr.set _ _ (.inl rfl))).alloc o,Moved.refl _ _,hr,?_,h⟩
 ·have:=(hb.set 5 (.int .i64 ((tries:Int)+1))).alloc o
  simpa [fBox] using this
 ·unfold bnd
  split <;> omega
theorem WkS.ob {tries0:Nat}{seen0:Value}(h:WkS v w0 pa pc ja jc sa sc bf out w N t tries seen R sv lv xv qv wx)(hb:Box w bf 55 (fBox v pa pc ja jc sa sc out tries0 seen0))(ho:OutAt w0.heap.size w out rs):OutAt w0.heap.size wx out rs:=
 ho.keep (rests_box h.fr hb) (fun g hg=>h.fr.block g (ho.lt hg) (out_off ho hb hg))
theorem walk_in (hB:Below w0.heap.size w0 w)(hb:Box w bf 55 (fBox v pa pc ja jc sa sc out tries seen))(ht:TlIn w0.heap.size w t sv lv xv qv)(hbf:w0.heap.size≤bf)(a0 a1 a6 a7:Value):
 WkS v w0 pa pc ja jc sa sc bf out w w0.heap.size t (tries+1) seen #[a0,a1,sv,lv,xv,qv,a6,a7] sv lv xv qv ((w.setCell ⟨bf,5,none⟩ (.int .i64 ((tries:Int)+1))).alloc (.cells #[a0,a1,sv,lv,xv,qv,a6,a7] 64)):=by
 have hB':Below w0.heap.size w0 (w.setCell ⟨bf,5,none⟩ (.int .i64 ((tries:Int)+1))):=hB.setCell (p:=⟨bf,5,none⟩) hbf _
 refine ⟨hB'.alloc hB'.size _,?_,?_,(ht.set hb (.inl rfl) 5 _).mono (bel1 _ _) lr,(Fr.set (X:=fun k=>k=bf) _ _ rfl).alloc _⟩
 ·have:=(hb.set 5 (.int .i64 ((tries:Int)+1))).alloc (.cells #[a0,a1,sv,lv,xv,qv,a6,a7] 64)
  simpa [fBox] using this
 ·have:=Box.new (w.setCell ⟨bf,5,none⟩ (.int .i64 ((tries:Int)+1))) 64 #[a0,a1,sv,lv,xv,qv,a6,a7]
  rw [size_setc] at this
  exact this
end
theorem take_mem {l:List Rw}{a b:Int}{k:Nat}(hw:Wide 2 l)(hk:k<l.length):decide ([a,b] ∈ l.take (k+1))=(decide ([a,b] ∈ l.take k) || (fnL l k 0 == a && fnL l k 1 == b)):=by
 have hr:l[k]?=some l[k]:=List.getElem?_eq_getElem hk
 rw [List.take_add_one,hr,fnL_row hr,fnL_row hr]
 have hl:=hw l[k] (List.getElem_mem hk)
 match hx:l[k],hl with
 | [x,y],_=>
  simp only [Option.toList_some,List.mem_append,List.mem_singleton,List.cons.injEq,and_true,List.getD_cons_zero,List.getD_cons_succ]
  by_cases h1:[a,b] ∈ l.take k
  ·simp [h1]
  ·by_cases h2:a=x
   ·by_cases h3:b=y
    ·simp [h2,h3]
    ·have h3':¬y=b:=fun e=>h3 e.symm
     simp [h1,h3,h3']
   ·have h2':¬x=a:=fun e=>h2 e.symm
    simp [h1,h2,h2']
theorem Box.set8 {w:World}{b:Nat}{T:TypeId}{b0 b1 b2 b3 b4 b5 b6 b7:Value}(h:Box w b T #[b0,b1,b2,b3,b4,b5,b6,b7])(a0 a1 a2 a3 a4 a5 a6 a7:Value):Box (set8 w b a0 a1 a2 a3 a4 a5 a6 a7) b T #[a0,a1,a2,a3,a4,a5,a6,a7]:=by
 unfold YtkhaehpobpkkiaaGreat.set8
 have:=(((((((h.set 0 a0).set 1 a1).set 2 a2).set 3 a3).set 4 a4).set 5 a5).set 6 a6).set 7 a7
 simpa using this
theorem Fr.set8 {X:Nat→Prop}{w:World}{b:Nat}(hb:X b)(a0 a1 a2 a3 a4 a5 a6 a7:Value):Fr X w (set8 w b a0 a1 a2 a3 a4 a5 a6 a7):=by
 have h:=set8_below (Below.refl 0 w) (Nat.zero_le b) a0 a1 a2 a3 a4 a5 a6 a7
 exact ⟨h.os,h.tape,h.output,h.size,fun k _ hk=>set8_keep w b a0 a1 a2 a3 a4 a5 a6 a7 (fun e=>hk (by rw [e];exact hb))⟩
theorem Rests.box {w w':World}{b:Nat}{F:Array Value}(h:Fr (fun k=>k=b) w w')(hb:Box w b 64 F):Rests w w':=Rests.of_fr h (fun k cur e _ hx hc he=>by
 subst hx
 have hb':w.heap[k]?=some (.cells F 64 (0,0)):=hb
 rw [hc] at hb'
 simp only [Option.some.injEq,Obj.cells.injEq] at hb'
 have e1:=hb'.2.1
 subst e1
 rcases he with h | h | h | h | h <;> exact absurd h (by decide))
theorem Own.fr {B:Nat}{e:TypeId}{c:Nat}{w w':World}{v:Value}{l:List Rw}{b:Nat}{F:Array Value}(h:Own B e c w v l)(hf:Fr (fun k=>k=b) w w')(hb:Box w b 64 F)(he:(64:TypeId)≠e):Own B e c w' v l:=
 h.keep lr fun g hg=>hf.block g (h.lt hg).2 (h.off hb he hg)
section
variable {v:Ev} {w0:World} {pa:Option Addr} {pc:Nat} {ja:Option Addr} {jc:Nat} {sa:Option Addr} {sc:Nat} {bf:Nat} {out:Value} {rs:List RtM} {w:World} {N:Nat} {t:Tl} {tries:Nat} {seen:Value} {b0 b1 b2 b3 b4 b5 b6 b7:Value} {sv lv xv qv:Value} {wx:World}
theorem WkS.fill {t':Tl}{a0 a1 a2 a3 a4 a5 a6 a7:Value}(h:WkS v w0 pa pc ja jc sa sc bf out w N t tries seen #[b0,b1,b2,b3,b4,b5,b6,b7] sv lv xv qv wx)(hw0:w0.heap.size≤w.heap.size)(hbf:bf<w.heap.size)
 (g1:Own w.heap.size 100 2 wx a2 t'.st) (g2:Own w.heap.size 136 2 wx a3 t'.li) (g3:Own w.heap.size 3 1 wx a4 t'.cr) (g4:Own w.heap.size 104 3 wx a5 t'.pa):
 WkS v w0 pa pc ja jc sa sc bf out w w.heap.size t' tries seen #[a0,a1,a2,a3,a4,a5,a6,a7] a2 a3 a4 a5 (set8 wx w.heap.size a0 a1 a2 a3 a4 a5 a6 a7):=by
 have hf:Fr (fun k=>k=w.heap.size) wx (set8 wx w.heap.size a0 a1 a2 a3 a4 a5 a6 a7):=Fr.set8 (X:=fun k=>k=w.heap.size) rfl _ _ _ _ _ _ _ _
 exact ⟨set8_below h.bel hw0 _ _ _ _ _ _ _ _,h.bx.keep (hf.block bf h.bx.lt (by omega)),h.rt.set8 _ _ _ _ _ _ _ _,⟨g1.fr hf h.rt (by decide),g2.fr hf h.rt (by decide),g3.fr hf h.rt (by decide),g4.fr hf h.rt (by decide)⟩,h.fr.then hf (fun i hi y=>by omega)⟩
theorem Appd.undrew {w w':World}{v v':Value}(h:Appd w.drew w' v v'):Appd w w' v v':=
 ⟨⟨h.fr.os,h.fr.tape,h.fr.output,h.fr.size,h.fr.block⟩,h.nb.imp id fun ⟨a,b⟩=>⟨⟨a.os,a.tape,a.output,a.size,a.block⟩,b⟩⟩
theorem WkS.addS {r:Rw}{v5:Value}{w5:World}{o:Obj}(h:WkS v w0 pa pc ja jc sa sc bf out w w.heap.size t tries seen #[b0,b1,sv,lv,xv,qv,b6,b7] sv lv xv qv wx)(hw0:w0.heap.size≤w.heap.size)(hbf:bf<w.heap.size)(o5:Own w.heap.size 100 2 w5 v5 (t.st ++ [r]))(ha:Appd (wx.alloc o) w5 sv v5):
 WkS v w0 pa pc ja jc sa sc bf out w w.heap.size { t with st:=t.st ++ [r] } tries seen #[b0,b1,v5,lv,xv,qv,b6,b7] v5 lv xv qv (w5.setCell ⟨w.heap.size,2,none⟩ v5):=by
 have r5:Box w5 w.heap.size 64 #[b0,b1,sv,lv,xv,qv,b6,b7]:=(h.rt.alloc o).grown ha.fr (fun e=>h.tl.s.off h.rt (by decide) e rfl)
 have fx:Fr (fun k=>k=w.heap.size∨sv.ownBlock=some k) wx (w5.setCell ⟨w.heap.size,2,none⟩ v5):=(((Fr.refl _ wx).alloc o).trans (Fr.of_grown ha.fr (fun k e _=>.inr e))).trans (Fr.set _ _ (.inl rfl))
 refine ⟨h.bel.trans (fx.below h.bel.size fun k hk y=>?_),((h.bx.alloc o).grown ha.fr (fun e=>h.tl.s.off h.bx (by decide) e rfl)).other (p:=⟨w.heap.size,2,none⟩) (fun e=>by have e':bf=w.heap.size:=e;omega) _,?_,⟨o5.set r5 (by decide) 2 v5,((h.tl.l.alloc o).grown ha.fr (fun g hg e=>h.tl.s.ne h.tl.l (by decide) e hg)).set r5 (by decide) 2 v5,((h.tl.x.alloc o).grown ha.fr (fun g hg e=>h.tl.s.ne h.tl.x (by decide) e hg)).set r5 (by decide) 2 v5,((h.tl.q.alloc o).grown ha.fr (fun g hg e=>h.tl.s.ne h.tl.q (by decide) e hg)).set r5 (by decide) 2 v5⟩,h.fr.then fx (fun i hi y=>?_)⟩
 ·rcases y with y | y
  ·omega
  ·have:=(h.tl.s.lt y).1;omega
 ·have:=r5.set 2 v5
  simpa using this
 ·rcases y with y | y
  ·omega
  ·have:=(h.tl.s.lt y).1;omega
theorem WkS.addQ {r:Rw}{v5:Value}{w5:World}{o:Obj}(h:WkS v w0 pa pc ja jc sa sc bf out w w.heap.size t tries seen #[b0,b1,sv,lv,xv,qv,b6,b7] sv lv xv qv wx)(hw0:w0.heap.size≤w.heap.size)(hbf:bf<w.heap.size)(o5:Own w.heap.size 104 3 w5 v5 (t.pa ++ [r]))(ha:Appd (wx.alloc o) w5 qv v5):
 WkS v w0 pa pc ja jc sa sc bf out w w.heap.size { t with pa:=t.pa ++ [r] } tries seen #[b0,b1,sv,lv,xv,v5,b6,b7] sv lv xv v5 (w5.setCell ⟨w.heap.size,5,none⟩ v5):=by
 have r5:Box w5 w.heap.size 64 #[b0,b1,sv,lv,xv,qv,b6,b7]:=(h.rt.alloc o).grown ha.fr (fun e=>h.tl.q.off h.rt (by decide) e rfl)
 have fx:Fr (fun k=>k=w.heap.size∨qv.ownBlock=some k) wx (w5.setCell ⟨w.heap.size,5,none⟩ v5):=(((Fr.refl _ wx).alloc o).trans (Fr.of_grown ha.fr (fun k e _=>.inr e))).trans (Fr.set _ _ (.inl rfl))
 refine ⟨h.bel.trans (fx.below h.bel.size fun k hk y=>?_),((h.bx.alloc o).grown ha.fr (fun e=>h.tl.q.off h.bx (by decide) e rfl)).other (p:=⟨w.heap.size,5,none⟩) (fun e=>by have e':bf=w.heap.size:=e;omega) _,?_,⟨((h.tl.s.alloc o).grown ha.fr (fun g hg e=>h.tl.q.ne h.tl.s (by decide) e hg)).set r5 (by decide) 5 v5,((h.tl.l.alloc o).grown ha.fr (fun g hg e=>h.tl.q.ne h.tl.l (by decide) e hg)).set r5 (by decide) 5 v5,((h.tl.x.alloc o).grown ha.fr (fun g hg e=>h.tl.q.ne h.tl.x (by decide) e hg)).set r5 (by decide) 5 v5,o5.set r5 (by decide) 5 v5⟩,h.fr.then fx (fun i hi y=>?_)⟩
 ·rcases y with y | y
  ·omega
  ·have:=(h.tl.q.lt y).1;omega
 ·have:=r5.set 5 v5
  simpa using this
 ·rcases y with y | y
  ·omega
  ·have:=(h.tl.q.lt y).1;omega
end
section
variable {v:Ev} {w0:World} {pa:Option Addr} {pc:Nat} {ja:Option Addr} {jc:Nat} {sa:Option Addr} {sc:Nat} {bf:Nat} {out:Value} {rs:List RtM} {w:World} {N:Nat} {t t0:Tl} {tries:Nat} {seen seen0:Value} {R:Array Value} {sv lv xv qv:Value} {wx wy:World} {fr:Int} {f:Nat} {p:Nat} {way far:Int}
theorem bnd_one (t f:Nat):t+1≤bnd t (f+1):=by
 unfold bnd
 split <;> omega
theorem walk_one (h:WkS v w0 pa pc ja jc sa sc bf out w N t (tries+1) seen R sv lv xv qv wx)(hb:Box w bf 55 (fBox v pa pc ja jc sa sc out tries seen0))(ho:OutAt w0.heap.size w out rs)(hr:rs.length≤301)(hres:Res tries rs (v.walk fr (f+1) t0 p way far) (tries+1) rs):
 WalkP v w0 pa pc ja jc sa sc bf fr (f+1) out tries rs t0 p way far w (.returned (.tuple #[])) wx:=
 ⟨rfl,out,seen,tries+1,rs,h.bx,h.ob hb ho,h.fr.mono (fun _ _ e=>.inl e),Moved.refl _ _,hr,bnd_one _ _,hres⟩
theorem walk_route {r:RtM}{e:Ending}(h:WkS v w0 pa pc ja jc sa sc bf out w N t (tries+1) seen R sv lv xv qv wx)(hr:rs.length≤300)(hres:Res tries rs (v.walk fr (f+1) t0 p way far) (tries+1) (rs ++ [r]))
 (hd:e=.returned (.tuple #[])∧∃ out' seen',Box wy bf 55 (fBox v pa pc ja jc sa sc out' ((tries+1:Nat):Int) seen')∧OutAt w0.heap.size wy out' (rs ++ [r])∧Fr (fun k=>k=bf∨out.ownBlock=some k) wx wy∧Moved wx out out'):
 WalkP v w0 pa pc ja jc sa sc bf fr (f+1) out tries rs t0 p way far w e wy:=by
 obtain ⟨rfl,out',seen',d1,d2,d3,d4⟩:=hd
 exact ⟨rfl,out',seen',tries+1,rs ++ [r],d1,d2,(h.fr.mono (fun _ _ e=>Or.inl e)).trans d3,d4.old h.fr.size,by simp;omega,bnd_one _ _,hres⟩
theorem walk_sig {b:Nat}(hb:nextS (v.P p).ln v.S p way far v.k=some b):v.walk fr (f+1) t p way far=[some (v.fin fr b { t with st:=t.st ++ [[(p:Int),way]],pa:=t.pa ++ [partR (v.P p).ln p way far (farI (v.P p).ln (v.S b).sp way)] } (v.bey v.ov.toNat v.ov p way (farI (v.P p).ln (v.S b).sp way)))]:=by
 simp [Ev.walk,hb]
theorem walk_again (hb:nextS (v.P p).ln v.S p way far v.k=none)(hm:[(p:Int),way] ∈ t.st):v.walk fr (f+1) t p way far=[none]:=by
 simp [Ev.walk,hb,hm]
theorem walk_buf (hb:nextS (v.P p).ln v.S p way far v.k=none)(hm:[(p:Int),way] ∉ t.st){j q:Nat}(ha:v.at (headE p way)=(j,q))(hk:(v.J j).kd=1):v.walk fr (f+1) t p way far=[some (v.fin fr (-1) { t with st:=t.st ++ [[(p:Int),way]],pa:=t.pa ++ [partR (v.P p).ln p way far (v.P p).ln] } [])]:=by
 simp [Ev.walk,hb,hm,ha,hk]
theorem walk_on (hb:nextS (v.P p).ln v.S p way far v.k=none)(hm:[(p:Int),way] ∉ t.st){j q:Nat}(ha:v.at (headE p way)=(j,q))(hk:(v.J j).kd≠1):v.walk fr (f+1) t p way far=none :: (acrossF (v.J j).kd.toNat q).flatMap fun x=>
 match Tl.over { t with st:=t.st ++ [[(p:Int),way]],pa:=t.pa ++ [partR (v.P p).ln p way far (v.P p).ln] } (v.J j).kd j q x with
 | none=>[]
 | some t2=>v.walk fr f t2 ((v.J j).E x).pc.toNat (wayOf ((v.J j).E x)) 0:=by
 simp [Ev.walk,hb,hm,ha,hk]
 rfl
end
theorem nextS_spec {ln:Int}{S:Nat→Pc}{p way far:Int}{q b:Nat}(h:nextS ln S p way far q=some b):(S b).ln=p∧(S b).br=way∧far<farI ln (S b).sp way:=by
 induction q generalizing b with
 | zero=>simp [nextS] at h
 | succ q ih=>
  simp only [nextS] at h
  split at h
  ·rename_i hc
   cases ho:nextS ln S p way far q with
   | none=>
    rw [ho] at h
    simp only [pickS,Option.some.injEq] at h
    subst h
    exact hc
   | some c=>
    rw [ho] at h
    simp only [pickS] at h
    split at h
    ·simp only [Option.some.injEq] at h
     subst h
     exact hc
    ·simp only [Option.some.injEq] at h
     subst h
     exact ih ho
  ·exact ih h
theorem WkS.putR {v:Ev}{w0:World}{pa:Option Addr}{pc:Nat}{ja:Option Addr}{jc:Nat}{sa:Option Addr}{sc:Nat}{bf:Nat}{out:Value}{w:World}{N:Nat}{t:Tl}{tries:Nat}{seen:Value}{R:Array Value}{sv lv xv qv:Value}{wx:World}(h:WkS v w0 pa pc ja jc sa sc bf out w N t tries seen R sv lv xv qv wx)(hw0:w0.heap.size≤w.heap.size)(hbf:bf<w.heap.size)(j:Nat)(u:Value):
 WkS v w0 pa pc ja jc sa sc bf out w N t tries seen (R.setIfInBounds j u) sv lv xv qv (wx.setCell ⟨w.heap.size,j,none⟩ u):=
 ⟨h.bel.setCell (p:=⟨w.heap.size,j,none⟩) hw0 u,h.bx.other (p:=⟨w.heap.size,j,none⟩) (fun e=>by have e':bf=w.heap.size:=e;omega) u,h.rt.set j u,h.tl.set h.rt (.inr rfl) j u,h.fr.then (Fr.set (X:=fun k=>k=w.heap.size) _ _ rfl) (fun i hi y=>by omega)⟩
theorem TlIn.lower {B B':Nat}{w:World}{t:Tl}{sv lv xv qv:Value}(h:TlIn B w t sv lv xv qv)(hb:B'≤B):TlIn B' w t sv lv xv qv:=
 ⟨h.s.keep hb fun _ _=>rfl,h.l.keep hb fun _ _=>rfl,h.x.keep hb fun _ _=>rfl,h.q.keep hb fun _ _=>rfl⟩
structure LpS (v:Ev)(w0:World)(pa:Option Addr)(pc:Nat)(ja:Option Addr)(jc:Nat)(sa:Option Addr)(sc:Nat)(bf:Nat)(out:Value)(tries:Nat)(rs:List RtM)(w11:World)(L:List (Option RtM))(outk seenk:Value)(tk:Nat)(rsk:List RtM)(wx:World):Prop where
 bel:Below w0.heap.size w0 wx
 bx:Box wx bf 55 (fBox v pa pc ja jc sa sc outk tk seenk)
 ob:OutAt w0.heap.size wx outk rsk
 fr:Fr (fun k=>k=bf∨out.ownBlock=some k) w11 wx
 mv:Moved w11 out outk
 rl:rsk.length≤301
 res:Res tries rs L tk rsk
section
variable {v:Ev} {w0:World} {pa:Option Addr} {pc:Nat} {ja:Option Addr} {jc:Nat} {sa:Option Addr} {sc:Nat} {bf:Nat} {out:Value} {tries:Nat} {rs:List RtM} {w w11:World} {L:List (Option RtM)} {outk seenk:Value} {tk:Nat} {rsk:List RtM} {wx wy:World}
theorem LpS.mono (h:LpS v w0 pa pc ja jc sa sc bf out tries rs w11 L outk seenk tk rsk wx)(hb:Below wx.heap.size wx wy):LpS v w0 pa pc ja jc sa sc bf out tries rs w11 L outk seenk tk rsk wy:=
 ⟨h.bel.trans (hb.mono h.bel.size),h.bx.mono hb lr,h.ob.mono hb,h.fr.trans (Fr.of_below hb),h.mv,h.rl,h.res⟩
theorem LpS.next {fr:Int}{f:Nat}{t2:Tl}{p:Nat}{way far:Int}{e:Ending}(h:LpS v w0 pa pc ja jc sa sc bf out tries rs w11 L outk seenk tk rsk wx)(hbf:w0.heap.size≤bf)(hp:WalkP v w0 pa pc ja jc sa sc bf fr f outk tk rsk t2 p way far wx e wy):
 e=.returned (.tuple #[])∧∃ outk' seenk' tk' rsk',LpS v w0 pa pc ja jc sa sc bf out tries rs w11 (L ++ v.walk fr f t2 p way far) outk' seenk' tk' rsk' wy∧tk'≤bnd tk f:=by
 obtain ⟨rfl,o1,s1,t1,r1,g1,g2,g3,g4,g5,g6,g7⟩:=hp
 refine ⟨rfl,o1,s1,t1,r1,⟨h.bel.trans (g3.below h.bel.size fun k hk y=>?_),g1,g2,h.fr.then g3 (fun i hi y=>?_),h.mv.trans g4 h.fr.size,g5,h.res.app g7⟩,g6⟩
 ·rcases y with y | y
  ·omega
  ·have:=(h.ob.block y).1;omega
 ·rcases y with y | y
  ·exact .inl y
  ·rcases h.mv i y with z | z
   ·exact .inr z
   ·omega
theorem LpS.done {fr:Int}{f:Nat}{t:Tl}{p:Nat}{way far:Int}(h:LpS v w0 pa pc ja jc sa sc bf out tries rs w11 L outk seenk tk rsk wx)(hw:Fr (fun k=>k=bf) w w11)(hL:v.walk fr f t p way far=L)(ht:tk≤bnd tries f):
 WalkP v w0 pa pc ja jc sa sc bf fr f out tries rs t p way far w (.returned (.tuple #[])) wx:=
 ⟨rfl,outk,seenk,tk,rsk,h.bx,h.ob,(hw.mono (fun _ _ e=>Or.inl e)).trans h.fr,h.mv.old hw.size,h.rl,ht,by rw [hL];exact h.res⟩
theorem LpS.begin {N:Nat}{t:Tl}{seen seen0:Value}{R:Array Value}{sv lv xv qv:Value}(h:WkS v w0 pa pc ja jc sa sc bf out w N t (tries+1) seen R sv lv xv qv w11)(hb:Box w bf 55 (fBox v pa pc ja jc sa sc out tries seen0))(ho:OutAt w0.heap.size w out rs)(hr:rs.length≤301):
 LpS v w0 pa pc ja jc sa sc bf out tries rs w11 [none] out seen (tries+1) rs w11:=⟨h.bel,h.bx,h.ob hb ho,Fr.refl _ _,Moved.refl _ _,hr,Res.none _ _⟩
theorem LpS.kept (h:LpS v w0 pa pc ja jc sa sc bf out tries rs w11 L outk seenk tk rsk wx){b:Nat}(h1:w.heap.size≤b)(h2:b<w11.heap.size)(hbf:bf<w.heap.size)(ho:OutAt w0.heap.size w out rs):wx.heap[b]?=w11.heap[b]?:=
 h.fr.block b h2 (fun y=>by
  rcases y with y | y
  ·omega
  ·have:=ho.lt y;omega)
theorem LpS.box (h:LpS v w0 pa pc ja jc sa sc bf out tries rs w11 L outk seenk tk rsk wx){b:Nat}{T:TypeId}{F:Array Value}(hx:Box w11 b T F)(h1:w.heap.size≤b)(hbf:bf<w.heap.size)(ho:OutAt w0.heap.size w out rs):Box wx b T F:=hx.keep (h.kept h1 hx.lt hbf ho)
theorem LpS.tl {t:Tl}{sv lv xv qv:Value}(h:LpS v w0 pa pc ja jc sa sc bf out tries rs w11 L outk seenk tk rsk wx)(ht:TlIn w.heap.size w11 t sv lv xv qv)(hbf:bf<w.heap.size)(ho:OutAt w0.heap.size w out rs):TlIn w.heap.size wx t sv lv xv qv:=
 ⟨ht.s.keep lr fun _g hg=>h.kept (ht.s.lt hg).1 (ht.s.lt hg).2 hbf ho,ht.l.keep lr fun _g hg=>h.kept (ht.l.lt hg).1 (ht.l.lt hg).2 hbf ho,ht.x.keep lr fun _g hg=>h.kept (ht.x.lt hg).1 (ht.x.lt hg).2 hbf ho,ht.q.keep lr fun _g hg=>h.kept (ht.q.lt hg).1 (ht.q.lt hg).2 hbf ho⟩
theorem LpS.es {N:Nat}{a:Option Addr}{n:Nat}{E:Nat→En}(h:LpS v w0 pa pc ja jc sa sc bf out tries rs w11 L outk seenk tk rsk wx)(he:EsAt N w11 a n E)(hN:w.heap.size≤N)(hbf:bf<w.heap.size)(ho:OutAt w0.heap.size w out rs):EsAt N wx a n E:=
 he.keep lr h.fr.size fun b h1 h2=>h.kept (by omega) h2 hbf ho
end
theorem flat_snoc {α β:Type}{l:List α}{g:α→List β}{k:Nat}{x:α}(h:l[k]?=some x):(l.take (k+1)).flatMap g=(l.take k).flatMap g ++ g x:=by
 rw [List.take_add_one,h]
 simp
theorem TlOk.put {v:Ev}{t:Tl}(h:TlOk v t){p:Nat}{way:Int}{r:Rw}(hp:p<v.n)(hw:way=1∨way=-1)(hm:[(p:Int),way] ∉ t.st):TlOk v { t with st:=t.st ++ [[(p:Int),way]],pa:=t.pa ++ [r] }:=
 ⟨h.st.snoc hp hw hm,h.li,by have:=h.ll;simp;omega,by have:=h.cl;simp;omega,by have:=h.pl;simp;omega⟩
def Ev.cont (v:Ev)(fr:Int)(f:Nat)(t:Tl)(j q x:Nat):List (Option RtM):=match t.over (v.J j).kd j q x with
 | none=>[]
 | some t2=>v.walk fr f t2 ((v.J j).E x).pc.toNat (wayOf ((v.J j).E x)) 0
theorem walk_on' {v:Ev}{fr:Int}{f:Nat}{t:Tl}{p:Nat}{way far:Int}(hb:nextS (v.P p).ln v.S p way far v.k=none)(hm:[(p:Int),way] ∉ t.st){j q:Nat}(ha:v.at (headE p way)=(j,q))(hk:(v.J j).kd≠1):
 v.walk fr (f+1) t p way far=none :: (acrossF (v.J j).kd.toNat q).flatMap (v.cont fr f { t with st:=t.st ++ [[(p:Int),way]],pa:=t.pa ++ [partR (v.P p).ln p way far (v.P p).ln] } j q):=walk_on hb hm ha hk
theorem cont_some {v:Ev}{fr:Int}{f:Nat}{t t2:Tl}{j q x:Nat}(h:t.over (v.J j).kd j q x=some t2):v.cont fr f t j q x=v.walk fr f t2 ((v.J j).E x).pc.toNat (wayOf ((v.J j).E x)) 0:=by simp [Ev.cont,h]
theorem cont_none {v:Ev}{fr:Int}{f:Nat}{t:Tl}{j q x:Nat}(h:t.over (v.J j).kd j q x=none):v.cont fr f t j q x=[]:=by simp [Ev.cont,h]
theorem across_len {kd:Int}{q ne:Nat}(hk:kd=2∨kd=3∨kd=4)(hne:(ne:Int)=kd)(hq:q<ne):1≤(acrossF kd.toNat q).length∧(acrossF kd.toNat q).length≤2∧∀ k,k<(acrossF kd.toNat q).length→(acrossF kd.toNat q).getD k 0<ne∧(kd=3→q=0→(acrossF kd.toNat q).getD k 0=k+1):=by
 rcases hk with rfl | rfl | rfl
 ·rcases (show q=0∨q=1 by omega) with rfl | rfl
  all_goals
   refine ⟨by decide,by decide,fun k hk=>?_⟩
   have hk0:k=0:=by simp [acrossF] at hk;omega
   subst hk0
   exact ⟨by simp [acrossF];omega,fun h=>absurd h (by decide)⟩
 ·rcases (show q=0∨q=1∨q=2 by omega) with rfl | rfl | rfl
  ·refine ⟨by decide,by decide,fun k hk=>?_⟩
   have hk0:k=0∨k=1:=by simp [acrossF] at hk;omega
   rcases hk0 with rfl | rfl
   ·exact ⟨by simp [acrossF];omega,fun _ _=>rfl⟩
   ·exact ⟨by simp [acrossF];omega,fun _ _=>rfl⟩
  all_goals
   refine ⟨by decide,by decide,fun k hk=>?_⟩
   have hk0:k=0:=by simp [acrossF] at hk;omega
   subst hk0
   exact ⟨by simp [acrossF];omega,fun _ h=>absurd h (by decide)⟩
 ·rcases (show q=0∨q=1∨q=2∨q=3 by omega) with rfl | rfl | rfl | rfl
  all_goals
   refine ⟨by decide,by decide,fun k hk=>?_⟩
   have hk0:k=0:=by simp [acrossF] at hk;omega
   subst hk0
   exact ⟨by simp [acrossF];omega,fun h=>absurd h (by decide)⟩
theorem over_cross (t:Tl){kd:Int}{j q x:Nat}(hk:kd=4):t.over kd j q x=some { t with cr:=t.cr ++ [[(j:Int)]] }:=by simp [Tl.over,hk]
theorem over_eq (t:Tl){kd:Int}{j q x:Nat}{lie:Int}(hk:kd=3)(hl:(if q=0 then (x:Int) else q)=lie)(h:lieF t.li j=some lie):t.over kd j q x=some t:=by simp [Tl.over,hk,hl,h]
theorem over_ne (t:Tl){kd:Int}{j q x:Nat}{l lie:Int}(hk:kd=3)(hl:(if q=0 then (x:Int) else q)=lie)(h:lieF t.li j=some l)(hn:¬l=lie):t.over kd j q x=none:=by simp [Tl.over,hk,hl,h,hn]
theorem over_new (t:Tl){kd:Int}{j q x:Nat}{lie:Int}(hk:kd=3)(hl:(if q=0 then (x:Int) else q)=lie)(h:lieF t.li j=none):t.over kd j q x=some { t with li:=t.li ++ [[(j:Int),lie]] }:=by simp [Tl.over,hk,hl,h]
theorem TlOk.cross {v:Ev}{t:Tl}(h:TlOk v t){j:Int}(hc:t.cr.length+1≤t.st.length):TlOk v { t with cr:=t.cr ++ [[j]] }:=⟨h.st,h.li,h.ll,by simp;omega,h.pl⟩
theorem TlOk.lie {v:Ev}{t:Tl}(h:TlOk v t){j x:Nat}(hj:j<v.m)(hk:(v.J j).kd=3)(hx:x=1∨x=2)(hc:t.li.length+1≤t.st.length):TlOk v { t with li:=t.li ++ [[(j:Int),(x:Int)]] }:=
 ⟨h.st,fun r hr=>by
  rcases List.mem_append.1 hr with hr | hr
  ·exact h.li r hr
  ·exact ⟨j,x,hj,hk,hx,List.mem_singleton.1 hr⟩,by simp;omega,h.cl,h.pl⟩
theorem tl_cross {B b:Nat}{W w5:World}{o:Obj}{t:Tl}{a0 a1 sv lv xv qv a6 a7 v5:Value}{r:Rw}(h:TlIn B W t sv lv xv qv)(hb:Box W b 64 #[a0,a1,sv,lv,xv,qv,a6,a7])(o5:Own B 3 1 w5 v5 (t.cr ++ [r]))(ha:Appd (W.alloc o) w5 xv v5):
 TlIn B (w5.setCell ⟨b,4,none⟩ v5) { t with cr:=t.cr ++ [r] } sv lv v5 qv∧Box (w5.setCell ⟨b,4,none⟩ v5) b 64 #[a0,a1,sv,lv,v5,qv,a6,a7]∧Fr (fun k=>k=b∨xv.ownBlock=some k) W (w5.setCell ⟨b,4,none⟩ v5)∧Box w5 b 64 #[a0,a1,sv,lv,xv,qv,a6,a7]:=by
 have r5:Box w5 b 64 #[a0,a1,sv,lv,xv,qv,a6,a7]:=(hb.alloc o).grown ha.fr (fun e=>h.x.off hb (by decide) e rfl)
 refine ⟨⟨((h.s.alloc o).grown ha.fr (fun g hg e=>h.x.ne h.s (by decide) e hg)).set r5 (by decide) 4 v5,((h.l.alloc o).grown ha.fr (fun g hg e=>h.x.ne h.l (by decide) e hg)).set r5 (by decide) 4 v5,o5.set r5 (by decide) 4 v5,((h.q.alloc o).grown ha.fr (fun g hg e=>h.x.ne h.q (by decide) e hg)).set r5 (by decide) 4 v5⟩,?_,?_,r5⟩
 ·have:=r5.set 4 v5
  simpa using this
 ·exact (((Fr.refl _ W).alloc o).trans (Fr.of_grown ha.fr (fun k e _=>.inr e))).trans (Fr.set _ _ (.inl rfl))
theorem tl_new {B b:Nat}{W w5:World}{t:Tl}{a0 a1 sv lv xv qv a6 a7 v5:Value}{r:Rw}(h:TlIn B W t sv lv xv qv)(hb:Box W b 64 #[a0,a1,sv,lv,xv,qv,a6,a7])(o5:Own B 136 2 w5 v5 (t.li ++ [r]))(hf:Fr (fun k=>k=b∨lv.ownBlock=some k) W w5):TlIn B w5 { t with li:=t.li ++ [r] } sv v5 xv qv:=by
 refine ⟨h.s.keep lr fun g hg=>hf.block g (h.s.lt hg).2 fun y=>?_,o5,h.x.keep lr fun g hg=>hf.block g (h.x.lt hg).2 fun y=>?_,h.q.keep lr fun g hg=>hf.block g (h.q.lt hg).2 fun y=>?_⟩
 ·exact y.elim (h.s.off hb (by decide) hg) (fun e=>h.l.ne h.s (by decide) e hg)
 ·exact y.elim (h.x.off hb (by decide) hg) (fun e=>h.l.ne h.x (by decide) e hg)
 ·exact y.elim (h.q.off hb (by decide) hg) (fun e=>h.l.ne h.q (by decide) e hg)
def cSig (v:Ev)(_:Tl)(p:Nat)(way far:Int):Prop:=nextS (v.P p).ln v.S p way far v.k≠none
def cAgain (v:Ev)(t:Tl)(p:Nat)(way far:Int):Prop:=nextS (v.P p).ln v.S p way far v.k=none∧[(p:Int),way] ∈ t.st
def cKd (v:Ev)(K:Int→Nat→Prop)(t:Tl)(p:Nat)(way far:Int):Prop:=nextS (v.P p).ln v.S p way far v.k=none∧[(p:Int),way] ∉ t.st∧K (v.J (v.at (headE p way)).1).kd (v.at (headE p way)).2
def k1 (kd:Int)(_:Nat):Prop:=kd=1
def k2 (kd:Int)(_:Nat):Prop:=kd=2
def k4 (kd:Int)(_:Nat):Prop:=kd=4
def k30 (kd:Int)(q:Nat):Prop:=kd=3∧q=0
def k3q (kd:Int)(q:Nat):Prop:=kd=3∧q≠0
section
variable (v:Ev) (w0:World) (pa:Option Addr) (pc:Nat) (ja:Option Addr) (jc:Nat) (sa:Option Addr) (sc:Nat) (bf:Nat)
def WalkD (C:Tl→Nat→Int→Int→Prop)(fr:Int)(f:Nat):Prop:=
 ∀ (out seen:Value) (tries:Nat) (rs:List RtM) (t:Tl) (sv lv xv qv:Value) (p:Nat) (way far:Int) (w:World),Below w0.heap.size w0 w→Box w bf 55 (fBox v pa pc ja jc sa sc out tries seen)→OutAt w0.heap.size w out rs→rs.length≤301→tries≤1000000→TlIn w0.heap.size w t sv lv xv qv→TlOk v t→p<v.n→(way=1∨way=-1)→
  0≤far→far<(v.P p).ln→2*v.n+1≤f+t.st.length→C t p way far→
  Calls Tryz.prog 22 #[.pointer (some ⟨bf,0,none⟩),.agg #[.int .i64 fr,.int .i64 0,sv,lv,xv,qv,.slice none 0 0,.slice none 0 0],.int .i64 p,.int .i64 way,.int .i64 far] w (WalkP v w0 pa pc ja jc sa sc bf fr f out tries rs t p way far w)
end
end Go.Proofs.YtkhaehpobpkkiaaGreat
