import Derived.Test.YtkeilejbelblcaaGreatDoorU0
import Derived.Deep.CutBlock
namespace Go.Proofs.YtkeilejbelblcaaGreatDoor
open Go.RowKit Go.Lib
theorem app_fr {W0 W W6:World}{tq m vc:Nat}{va:Option Addr}{F:Nat->Nat->Value}{v0 v1 v2:Value}{o:Obj}(h1:Fr (fun b=>b=tq) W0 W) (h2:Box W tq 141 #[v0,v1,v2]) (h3:VOwn W0.heap.size 3 1 W (.slice va m vc) m F) (ht:tq<W0.heap.size) (g2:(W.alloc o).grownBy W6 (Value.slice va m vc).ownBlock):
  Fr (fun b=>b=tq) W0 W6/\Box W6 tq 141 #[v0,v1,v2]:=by
 have hrw:∀b,b<W0.heap.size->(Value.slice va m vc).ownBlock≠some b:=fun b hb e=>by have :=(h3.lt e).1;omega
 have hT:=h1.trans (Fr.of_below (bel1 W o))
 refine⟨⟨g2.os.trans hT.os,g2.tape.trans hT.tape,g2.output.trans hT.output,Nat.le_trans hT.size g2.size,fun b hb hx=>?_⟩,(h2.alloc _).grown g2 (hrw tq ht)⟩
 exact(g2.block b (Nat.lt_of_lt_of_le hb hT.size) fun e=>hrw b hb e.symm).trans (hT.block b hb hx)
set_option maxRecDepth 100000 in
set_option maxHeartbeats 64000000 in
theorem stays62 (p:Pl) (f:Fm) (wa ya ba:Option Addr) (wk yk bk:Nat) (ob oo pb po:Nat) (ha:Option Addr) (oc pc hc:Nat) (x:Nat) (w:World) (hx:x<p.ny) (hs:p.small) (hfs:f.small) (hok:p.Ok) (hnh:f.nh=p.ny) (hnp:f.np=p.nw) (hno:(f.no:Int)=p.sec) (hin:(p.Y x).In f.no f.np) (hsw:∀k,k<p.nw->∃o:Nat,p.W k=(o:Int)/\o<f.no) (h:PlIn 0 w p wa ya ba) (hf:FmIn 0 w f (some (ad ob oo)) (some (ad pb po)) ha):
  Calls Tryz.prog 88 #[.agg #[.int .i64 p.sec,.slice wa p.nw wk,.slice ya p.ny yk,.slice ba p.nb bk,.int .i64 p.hold],.agg #[.bool f.ok,.slice (some (ad ob oo)) f.no oc,.slice (some (ad pb po)) f.np pc,.slice ha f.nh hc],.int .i64 (x:Int)] w fun e w'=>SpR w p f x e w':=by
 have H:Hid (PlIn 0 w p wa ya ba/\FmIn 0 w f (some (ad ob oo)) (some (ad pb po)) ha/\p.small/\f.small/\p.Ok/\(p.Y x).In f.no f.np/\(∀k,k<p.nw->∃o:Nat,p.W k=(o:Int)/\o<f.no)/\f.np=p.nw/\(f.no:Int)=p.sec/\f.nh=p.ny):=⟨h,hf,hs,hfs,hok,hin,hsw,hnp,hno,hnh⟩
 obtain⟨i0,hi0,hz0,hs0',hb0⟩:=info_parts infoInt
 have hny:=hs.2.1
 have hnw:p.nw<=1048576:=hs.1
 have hnhs:f.nh<=1048576:=hfs.2.2.1
 have hnos:f.no<=1048576:=hfs.1
 have hnps:f.np<=1048576:=hfs.2.1
 have hsmx:=hs.2.2.1 x hx
 have hns:(p.Y x).ns<=1048576:=by have :=hsmx.1;omega
 have hnl:(p.Y x).nl<=1048576:=by have :=hsmx.2.1;omega
 have hnf:(p.Y x).nf<=1048576:=by have :=hsmx.2.2.1;omega
 have hnov:(p.Y x).no<=1048576:=by have :=hsmx.2.2.2.1;omega
 have hnb:p.nb=p.ny:=hok.nb
 obtain⟨yb,yo,rfl,_,hyl,hcy⟩:=h.wy (by omega)
 obtain⟨sa,sc,la,lc,fa,fc,ov,vc0,ma,mc,x0,x1,x2,x3,x4,hy⟩:=hcy x hx
 obtain⟨bb,bo,rfl,_,hbl,hcb⟩:=h.br (by omega)
 obtain⟨ra,rc,r0,hrow⟩:=hcb x (by omega)
 rw[hok.row x (by omega)] at r0 hrow
 obtain⟨rb,ro,rfl,_,hrl,hcr⟩:=hrow (by omega)
 obtain⟨fb,fo,rfl,_,hfl,hcf⟩:=hf.h (by omega)
 have HXS:Hid (VsAt 1 0 w sa (p.Y x).ns (oneF (p.Y x).S)):=hy.s
 have HXO:Hid (VsAt 1 0 w ov (p.Y x).no (oneF (p.Y x).O)):=hy.o
 have HXL:Hid (VsAt 2 0 w la (p.Y x).nl (intF (p.Y x).L)/\VsAt 2 0 w fa (p.Y x).nf (intF (p.Y x).F)):=⟨hy.l,hy.f⟩
 have HBR:Hid (bb<w.heap.size/\w.cell? (ad bb (bo+x))=some (.slice (some (ad rb ro)) p.ny rc)/\rb<w.heap.size/\∀k,k<p.ny->w.cell? (ad rb (ro+k))=some (.bool (p.T x k))):=⟨hbl,r0,hrl,fun k hk=>by have :=hcr k hk 0 (by omega);rwa [Nat.mul_one] at this⟩
 have HHL:Hid (fb<w.heap.size/\∀k,k<f.nh->w.cell? (ad fb (fo+k*5))=some (.int .i64 (f.Y k).st)):=⟨hfl,fun k hk=>by obtain⟨_,_,y0,_⟩:=hcf k hk;exact y0⟩
 have HYC:Hid (yb<w.heap.size/\∀k,k<p.ny->∃ka kac kb kbc,w.cell? (ad yb (yo+k*5))=some (.slice ka (p.Y k).ns kac)/\w.cell? (ad yb (yo+k*5+3))=some (.slice kb (p.Y k).no kbc)/\VsAt 1 0 w ka (p.Y k).ns (oneF (p.Y k).S)/\VsAt 1 0 w kb (p.Y k).no (oneF (p.Y k).O)):=⟨hyl,fun k hk=>by obtain⟨ka,kac,_,_,_,_,kb,kbc,_,_,u0,_,_,u3,_,hyk⟩:=hcy k hk;exact⟨ka,kac,kb,kbc,u0,u3,hyk.s,hyk.o⟩⟩
 clear h hf hs hfs hok hin hsw hcy hy hcb r0 hrow hcr hcf hsmx hnp hno hnh
 have hx0:(0:Int)<=(x:Int):=by omega
 have hxn:(x:Int)<(p.ny:Int):=by omega
 have hxb:(x:Int)<(p.nb:Int):=by omega
 have HNB:Hid (p.nb=p.ny):=hnb
 clear hnb
 have S0:Hid (Below w.heap.size w ((((w.alloc (.cells (vPl p wa wk (some (ad yb yo)) yk (some (ad bb bo)) bk) 37)).alloc (.cells (vFr f (some (ad ob oo)) oc (some (ad pb po)) pc (some (ad fb fo)) hc) 42)).alloc (.cells z3v 141)).alloc (.cells z3v 141))/\Box ((((w.alloc (.cells (vPl p wa wk (some (ad yb yo)) yk (some (ad bb bo)) bk) 37)).alloc (.cells (vFr f (some (ad ob oo)) oc (some (ad pb po)) pc (some (ad fb fo)) hc) 42)).alloc (.cells z3v 141)).alloc (.cells z3v 141)) w.heap.size 37 (vPl p wa wk (some (ad yb yo)) yk (some (ad bb bo)) bk)/\Box ((((w.alloc (.cells (vPl p wa wk (some (ad yb yo)) yk (some (ad bb bo)) bk) 37)).alloc (.cells (vFr f (some (ad ob oo)) oc (some (ad pb po)) pc (some (ad fb fo)) hc) 42)).alloc (.cells z3v 141)).alloc (.cells z3v 141)) (w.heap.size+1) 42 (vFr f (some (ad ob oo)) oc (some (ad pb po)) pc (some (ad fb fo)) hc)/\Box ((((w.alloc (.cells (vPl p wa wk (some (ad yb yo)) yk (some (ad bb bo)) bk) 37)).alloc (.cells (vFr f (some (ad ob oo)) oc (some (ad pb po)) pc (some (ad fb fo)) hc) 42)).alloc (.cells z3v 141)).alloc (.cells z3v 141)) (w.heap.size+1+1) 141 z3v/\Box ((((w.alloc (.cells (vPl p wa wk (some (ad yb yo)) yk (some (ad bb bo)) bk) 37)).alloc (.cells (vFr f (some (ad ob oo)) oc (some (ad pb po)) pc (some (ad fb fo)) hc) 42)).alloc (.cells z3v 141)).alloc (.cells z3v 141)) (w.heap.size+1+1+1) 141 z3v/\w.heap.size<=(w.heap.size+1+1)/\w.heap.size<=(w.heap.size+1+1+1)/\(w.heap.size+1+1)≠(w.heap.size+1+1+1)):=by
  have b3:=bel3 w (.cells (vPl p wa wk (some (ad yb yo)) yk (some (ad bb bo)) bk) 37) (.cells (vFr f (some (ad ob oo)) oc (some (ad pb po)) pc (some (ad fb fo)) hc) 42) (.cells z3v 141)
  have b4:=b3.alloc b3.size (.cells z3v 141)
  exact⟨b4,by have :=(((Box.new w 37 (vPl p wa wk (some (ad yb yo)) yk (some (ad bb bo)) bk)).alloc (.cells (vFr f (some (ad ob oo)) oc (some (ad pb po)) pc (some (ad fb fo)) hc) 42)).alloc (.cells z3v 141)).alloc (.cells z3v 141);simpa using this,by have :=((Box.new (w.alloc (.cells (vPl p wa wk (some (ad yb yo)) yk (some (ad bb bo)) bk) 37)) 42 (vFr f (some (ad ob oo)) oc (some (ad pb po)) pc (some (ad fb fo)) hc)).alloc (.cells z3v 141)).alloc (.cells z3v 141);simpa using this,by have :=(Box.new ((w.alloc (.cells (vPl p wa wk (some (ad yb yo)) yk (some (ad bb bo)) bk) 37)).alloc (.cells (vFr f (some (ad ob oo)) oc (some (ad pb po)) pc (some (ad fb fo)) hc) 42)) 141 z3v).alloc (.cells z3v 141);simpa using this,by have :=Box.new (((w.alloc (.cells (vPl p wa wk (some (ad yb yo)) yk (some (ad bb bo)) bk) 37)).alloc (.cells (vFr f (some (ad ob oo)) oc (some (ad pb po)) pc (some (ad fb fo)) hc) 42)).alloc (.cells z3v 141)) 141 z3v;simpa using this,by omega,by omega,by omega⟩
 go_enter Tryz.func88,Tryz.ntmps88
 go_upto_region 3 with fail
 generalize ((((w.alloc (.cells (vPl p wa wk (some (ad yb yo)) yk (some (ad bb bo)) bk) 37)).alloc (.cells (vFr f (some (ad ob oo)) oc (some (ad pb po)) pc (some (ad fb fo)) hc) 42)).alloc (.cells z3v 141)).alloc (.cells z3v 141))=V4 at S0⊢
 generalize w.heap.size+1+1+1=tq at S0⊢
 generalize w.heap.size+1+1=q6 at S0⊢
 generalize w.heap.size+1=q4 at S0⊢
 have e0:V4.cell? (ad yb (yo+x*5))=some (.slice sa (p.Y x).ns sc):=cell_keep S0.out.1 hyl x0
 have e1:V4.cell? (ad yb (yo+x*5+1))=some (.slice la (p.Y x).nl lc):=cell_keep S0.out.1 hyl x1
 have e2:V4.cell? (ad yb (yo+x*5+2))=some (.slice fa (p.Y x).nf fc):=cell_keep S0.out.1 hyl x2
 have e3:V4.cell? (ad yb (yo+x*5+3))=some (.slice ov (p.Y x).no vc0):=cell_keep S0.out.1 hyl x3
 have e4:V4.cell? (ad yb (yo+x*5+4))=some (.slice ma (p.Y x).nm mc):=cell_keep S0.out.1 hyl x4
 have d2:V4.cell? (ad w.heap.size 2)=some (.slice (some (ad yb yo)) p.ny yk):=S0.out.2.1.cell 2
 clear x0 x1 x2 x3 x4
 have S5:Hid (Below w.heap.size w (V4.alloc (.cells (vWy (p.Y x) sa sc la lc fa fc ov vc0 ma mc) 112))/\Box (V4.alloc (.cells (vWy (p.Y x) sa sc la lc fa fc ov vc0 ma mc) 112)) w.heap.size 37 (vPl p wa wk (some (ad yb yo)) yk (some (ad bb bo)) bk)/\Box (V4.alloc (.cells (vWy (p.Y x) sa sc la lc fa fc ov vc0 ma mc) 112)) q4 42 (vFr f (some (ad ob oo)) oc (some (ad pb po)) pc (some (ad fb fo)) hc)/\Box (V4.alloc (.cells (vWy (p.Y x) sa sc la lc fa fc ov vc0 ma mc) 112)) q6 141 z3v/\Box (V4.alloc (.cells (vWy (p.Y x) sa sc la lc fa fc ov vc0 ma mc) 112)) tq 141 z3v/\Box (V4.alloc (.cells (vWy (p.Y x) sa sc la lc fa fc ov vc0 ma mc) 112)) V4.heap.size 112 (vWy (p.Y x) sa sc la lc fa fc ov vc0 ma mc)/\w.heap.size<=q6/\w.heap.size<=tq/\q6≠tq):=by
  obtain⟨c1,c2,c3,c4,c5,c7,c8,c9⟩:=S0.out
  exact⟨c1.alloc c1.size _,c2.alloc _,c3.alloc _,c4.alloc _,c5.alloc _,Box.new _ _ _,c7,c8,c9⟩
 have hl4:w.heap.size<V4.heap.size:=S0.out.2.1.lt
 go_upto_block 0 with fail
 clear e0 e1 e2 e3 e4 d2 S0 hl4
 generalize V4.alloc (.cells (vWy (p.Y x) sa sc la lc fa fc ov vc0 ma mc) 112)=V0 at S5⊢
 generalize V4.heap.size=wq at S5⊢
 have S1:Hid ((Below w.heap.size w V0/\Box V0 w.heap.size 37 (vPl p wa wk (some (ad yb yo)) yk (some (ad bb bo)) bk)/\Box V0 q4 42 (vFr f (some (ad ob oo)) oc (some (ad pb po)) pc (some (ad fb fo)) hc)/\Box V0 q6 141 z3v/\Box V0 wq 112 (vWy (p.Y x) sa sc la lc fa fc ov vc0 ma mc))/\Box V0 tq 141 z3v/\w.heap.size<=q6/\w.heap.size<=tq/\q6≠tq):=by
  obtain⟨c1,c2,c3,c4,c5,c6,c7,c8,c9⟩:=S5.out
  exact⟨⟨c1,c2,c3,c4,c6⟩,c5,c7,c8,c9⟩
 clear S5
 have HTQ:Hid (tq<V0.heap.size):=S1.out.2.1.lt
 have HST:Hid (∀W,Fr (fun b=>b=tq) V0 W->Below w.heap.size w W/\Box W w.heap.size 37 (vPl p wa wk (some (ad yb yo)) yk (some (ad bb bo)) bk)/\Box W q4 42 (vFr f (some (ad ob oo)) oc (some (ad pb po)) pc (some (ad fb fo)) hc)/\Box W q6 141 z3v/\Box W wq 112 (vWy (p.Y x) sa sc la lc fa fc ov vc0 ma mc)):=fun W hF=>by
  obtain⟨⟨c1,c2,c3,c4,c5⟩,c6,c7,c8,c9⟩:=S1.out
  refine⟨c1.trans (hF.below c1.size fun b hb (e:b=tq)=>by omega),c2.fr hF fun(e:w.heap.size=tq)=>?_,c3.fr hF fun(e:q4=tq)=>?_,c4.fr hF c9,c5.fr hF fun(e:wq=tq)=>?_⟩
  ·
   exact c2.ne c6 (by decide) e
  ·
   exact c3.ne c6 (by decide) e
  ·
   exact c5.ne c6 (by decide) e
 go_cut [9,11] from 20 (fun s9 s11 wx=>∃(cd:Int) (m:Nat) (va:Option Addr) (vc:Nat) (D:Nat->Int),s9=.int .i64 cd/\cd=cd1 m/\m<=p.ny/\Hid (m=selN (fun k=>agB p f x k) p.ny/\D=selD (fun k=>agB p f x k) p.ny)/\Hid (Fr (fun b=>b=tq) V0 wx/\Box wx tq 141 #[.slice va m vc,.slice none 0 0,.slice none 0 0]/\VOwn V0.heap.size 3 1 wx (.slice va m vc) m (oneF D)))
 case first =>
  have d2:V0.cell? (ad w.heap.size 2)=some (.slice (some (ad yb yo)) p.ny yk):=S1.out.1.2.1.cell 2
  go_wp2_with fail
  clear d2
  go_loopw [9,28] (fun s9 c wr=>∃(k m:Nat) (va:Option Addr) (vc:Nat) (D:Nat->Int),k<=p.ny/\m<=k/\c=.int .i64 (k:Int)/\s9=.int .i64 (cd1 m)/\Hid (m=selN (fun k=>agB p f x k) k/\D=selD (fun k=>agB p f x k) k)/\Hid (Fr (fun b=>b=tq) V0 wr/\Box wr tq 141 #[.slice va m vc,.slice none 0 0,.slice none 0 0]/\VOwn V0.heap.size 3 1 wr (.slice va m vc) m (oneF D))) (fun _ c _=>p.ny-(intOf c).toNat)
  case atStart=>exact⟨0,0,none,0,fun _=>0,Nat.zero_le _,Nat.le_refl _,rfl,rfl,⟨rfl,rfl⟩,Fr.refl _ _,S1.out.2.1,VOwn.nil _ _ _ _ _⟩
  case round=>
   obtain⟨k,m,va,vc,D,hk,hm,rfl,rfl,HD,M⟩:=hrel
   by_cases hlt:k<p.ny
   ·
    have hk0:(0:Int)<=(k:Int):=by omega
    have hkn:(k:Int)<(p.ny:Int):=by omega
    have hkf0:k<f.nh:=by rw[H.out.2.2.2.2.2.2.2.2.2];exact hlt
    have hkf:(k:Int)<(f.nh:Int):=by omega
    have HV:=HST.out wr M.out.1
    obtain⟨ka,kac,kb,kbc,u0,u3,hkS,hkO⟩:=HYC.out.2 k hlt
    have HKS:Hid (VsAt 1 0 w ka (p.Y k).ns (oneF (p.Y k).S)):=hkS
    have HKO:Hid (VsAt 1 0 w kb (p.Y k).no (oneF (p.Y k).O)):=hkO
    have hsk:=H.out.2.2.1.2.2.1 k hlt
    have hkns:(p.Y k).ns<=1048576:=by have :=hsk.1;omega
    have hkno:(p.Y k).no<=1048576:=by have :=hsk.2.2.2.1;omega
    have HBD:Hid (Below w.heap.size w wr.drew):=HV.1.drew
    have k0:wr.cell? (ad w.heap.size 2)=some (.slice (some (ad yb yo)) p.ny yk):=HV.2.1.cell 2
    have k1:wr.cell? (ad w.heap.size 3)=some (.slice (some (ad bb bo)) p.nb bk):=HV.2.1.cell 3
    have k2:wr.cell? (ad q4 3)=some (.slice (some (ad fb fo)) f.nh hc):=HV.2.2.1.cell 3
    have k3:wr.cell? (ad wq 0)=some (.slice sa (p.Y x).ns sc):=HV.2.2.2.2.cell 0
    have k4:wr.cell? (ad wq 3)=some (.slice ov (p.Y x).no vc0):=HV.2.2.2.2.cell 3
    have k5:wr.cell? (ad yb (yo+k*5))=some (.slice ka (p.Y k).ns kac):=cell_keep HV.1 HYC.out.1 u0
    have k6:wr.cell? (ad yb (yo+k*5+3))=some (.slice kb (p.Y k).no kbc):=cell_keep HV.1 HYC.out.1 u3
    have k7:wr.cell? (ad bb (bo+x))=some (.slice (some (ad rb ro)) p.ny rc):=cell_keep HV.1 HBR.out.1 HBR.out.2.1
    have k8:wr.cell? (ad rb (ro+k))=some (.bool (p.T x k)):=cell_keep HV.1 HBR.out.2.2.1 (HBR.out.2.2.2 k hlt)
    have k9:wr.cell? (ad fb (fo+k*5))=some (.int .i64 (f.Y k).st):=cell_keep HV.1 HHL.out.1 (HHL.out.2 k hkf0)
    have MD:Hid (Fr (fun b=>b=tq) V0 wr.drew/\Box wr.drew tq 141 #[.slice va m vc,.slice none 0 0,.slice none 0 0]/\VOwn V0.heap.size 3 1 wr.drew (.slice va m vc) m (oneF D)):=⟨M.out.1.drew,M.out.2.1.drew,M.out.2.2.keep nr fun _ _=>rfl⟩
    have HC3:Hid ((Value.int .i64 3)=.int .i64 (cd1 (m+1))):=rfl
    clear u0 u3 hkS hkO hsk HV M
    go_wp2_with fail
    by_cases hxk:k=x
    ·
     have HU:Hid (agB p f x k=false):=by simp[Hid,agB,hxk]
     have zz1:((k:Int)==(x:Int))=true:=by simp[hxk]
     have zz2:((k:Int) !=(x:Int))=false:=by simp[hxk]
     clear hxk
     refine wp_region_held_drew (S:=(fun wx:World=>wx.cell? (ad w.heap.size 2)=some (.slice (some (ad yb yo)) p.ny yk)/\wx.cell? (ad w.heap.size 3)=some (.slice (some (ad bb bo)) p.nb bk)/\wx.cell? (ad q4 3)=some (.slice (some (ad fb fo)) f.nh hc)/\wx.cell? (ad wq 0)=some (.slice sa (p.Y x).ns sc)/\wx.cell? (ad wq 3)=some (.slice ov (p.Y x).no vc0)/\wx.cell? (ad yb (yo+k*5))=some (.slice ka (p.Y k).ns kac)/\wx.cell? (ad yb (yo+k*5+3))=some (.slice kb (p.Y k).no kbc)/\wx.cell? (ad bb (bo+x))=some (.slice (some (ad rb ro)) p.ny rc)/\wx.cell? (ad rb (ro+k))=some (.bool (p.T x k))/\wx.cell? (ad fb (fo+k*5))=some (.int .i64 (f.Y k).st))) (by kernel_rfl) ?_ (fun hHeld=>?_)
     ·
      exact⟨k0,k1,k2,k3,k4,k5,k6,k7,k8,k9⟩
     refine tk 0 ?_
     refine tk 1 ?_
     refine tk 2 ?_
     refine tk 3 ?_
     refine tf 4 ?_
     refine tf 5 ?_
     refine tf 6 ?_
     refine tf 7 ?_
     refine tf 8 ?_
     refine tf 9 ?_
     refine tf 10 ?_
     refine tk 11 ?_
     refine tk 12 ?_
     refine tf 13 ?_
     refine tf 14 ?_
     refine tf 15 ?_
     refine tf 16 ?_
     refine tf 17 ?_
     refine tf 18 ?_
     refine tf 19 ?_
     refine tf 20 ?_
     refine tf 21 ?_
     refine tf 22 ?_
     refine tf 23 ?_
     refine tf 24 ?_
     refine tf 25 ?_
     refine tf 26 ?_
     refine tf 27 ?_
     refine tf 28 ?_
     refine tf 29 ?_
     refine tf 30 ?_
     refine tf 31 ?_
     refine tf 32 ?_
     refine tf 33 ?_
     refine tf 34 ?_
     refine tf 35 ?_
     refine tf 36 ?_
     refine tf 37 ?_
     refine tf 38 ?_
     refine tf 39 ?_
     refine tf 40 ?_
     refine tf 41 ?_
     refine tf 42 ?_
     refine tk 43 ?_
     refine wpAnyH_done (by kernel_rfl) ?_ _
     have HD2:Hid (m=selN (fun k=>agB p f x k) (k+1)/\D=selD (fun k=>agB p f x k) (k+1)):=⟨HD.out.1.trans (selN_no (q:=(fun k=>agB p f x k)) HU.out).symm,HD.out.2.trans (selD_no (q:=(fun k=>agB p f x k)) HU.out).symm⟩
     go_wp2_with fail
     go_roundw
     case rel=>exact⟨k+1,m,va,vc,D,by omega,by omega,by go_num,rfl,HD2,MD⟩
     case measure=>simp[intOf];omega
    have HXK:Hid (decide (k≠x)=true):=by simp[Hid,hxk]
    have zz1:((k:Int)==(x:Int))=false:=by simp;omega
    have zz2:((k:Int) !=(x:Int))=true:=by simp;omega
    clear hxk
    by_cases hst:(f.Y k).st=0
    ·
     have HU:Hid (agB p f x k=false):=by simp[Hid,agB,hst]
     have yy1:((f.Y k).st==0)=true:=by simpa using hst
     have yy2:((f.Y k).st !=0)=false:=by simpa using hst
     clear hst
     refine wp_region_held_drew (S:=(fun wx:World=>wx.cell? (ad w.heap.size 2)=some (.slice (some (ad yb yo)) p.ny yk)/\wx.cell? (ad w.heap.size 3)=some (.slice (some (ad bb bo)) p.nb bk)/\wx.cell? (ad q4 3)=some (.slice (some (ad fb fo)) f.nh hc)/\wx.cell? (ad wq 0)=some (.slice sa (p.Y x).ns sc)/\wx.cell? (ad wq 3)=some (.slice ov (p.Y x).no vc0)/\wx.cell? (ad yb (yo+k*5))=some (.slice ka (p.Y k).ns kac)/\wx.cell? (ad yb (yo+k*5+3))=some (.slice kb (p.Y k).no kbc)/\wx.cell? (ad bb (bo+x))=some (.slice (some (ad rb ro)) p.ny rc)/\wx.cell? (ad rb (ro+k))=some (.bool (p.T x k))/\wx.cell? (ad fb (fo+k*5))=some (.int .i64 (f.Y k).st))) (by kernel_rfl) ?_ (fun hHeld=>?_)
     ·
      exact⟨k0,k1,k2,k3,k4,k5,k6,k7,k8,k9⟩
     refine tk 0 ?_
     refine tk 1 ?_
     refine tk 2 ?_
     refine tk 3 ?_
     refine tk 4 ?_
     refine tk 5 ?_
     refine tk 6 ?_
     refine tk 7 ?_
     refine tk 8 ?_
     refine tk 9 ?_
     refine tk 10 ?_
     refine tk 11 ?_
     refine tk 12 ?_
     refine tf 13 ?_
     refine tf 14 ?_
     refine tf 15 ?_
     refine tf 16 ?_
     refine tf 17 ?_
     refine tf 18 ?_
     refine tf 19 ?_
     refine tf 20 ?_
     refine tf 21 ?_
     refine tf 22 ?_
     refine tf 23 ?_
     refine tf 24 ?_
     refine tf 25 ?_
     refine tf 26 ?_
     refine tf 27 ?_
     refine tf 28 ?_
     refine tf 29 ?_
     refine tf 30 ?_
     refine tf 31 ?_
     refine tf 32 ?_
     refine tf 33 ?_
     refine tf 34 ?_
     refine tf 35 ?_
     refine tf 36 ?_
     refine tf 37 ?_
     refine tf 38 ?_
     refine tf 39 ?_
     refine tf 40 ?_
     refine tf 41 ?_
     refine tf 42 ?_
     refine tk 43 ?_
     refine wpAnyH_done (by kernel_rfl) ?_ _
     have HD2:Hid (m=selN (fun k=>agB p f x k) (k+1)/\D=selD (fun k=>agB p f x k) (k+1)):=⟨HD.out.1.trans (selN_no (q:=(fun k=>agB p f x k)) HU.out).symm,HD.out.2.trans (selD_no (q:=(fun k=>agB p f x k)) HU.out).symm⟩
     go_wp2_with fail
     go_roundw
     case rel=>exact⟨k+1,m,va,vc,D,by omega,by omega,by go_num,rfl,HD2,MD⟩
     case measure=>simp[intOf];omega
    have yy1:((f.Y k).st==0)=false:=by simpa using hst
    have yy2:((f.Y k).st !=0)=true:=by simpa using hst
    have HTT:Hid (agB p f x k=(p.T x k||(meetF (p.Y x).S (p.Y x).ns (p.Y k).O (p.Y k).no||meetF (p.Y x).O (p.Y x).no (p.Y k).S (p.Y k).ns))):=by rw[Hid,agB,HXK.out];simp[hst]
    clear hst
    cases hT:p.T x k with
    |true=>
     have HU:Hid (agB p f x k=true):=by rw[Hid,HTT.out,hT];rfl
     rw[hT] at k8
     refine wp_region_held_drew (S:=(fun wx:World=>wx.cell? (ad w.heap.size 2)=some (.slice (some (ad yb yo)) p.ny yk)/\wx.cell? (ad w.heap.size 3)=some (.slice (some (ad bb bo)) p.nb bk)/\wx.cell? (ad q4 3)=some (.slice (some (ad fb fo)) f.nh hc)/\wx.cell? (ad wq 0)=some (.slice sa (p.Y x).ns sc)/\wx.cell? (ad wq 3)=some (.slice ov (p.Y x).no vc0)/\wx.cell? (ad yb (yo+k*5))=some (.slice ka (p.Y k).ns kac)/\wx.cell? (ad yb (yo+k*5+3))=some (.slice kb (p.Y k).no kbc)/\wx.cell? (ad bb (bo+x))=some (.slice (some (ad rb ro)) p.ny rc)/\wx.cell? (ad rb (ro+k))=some (.bool true)/\wx.cell? (ad fb (fo+k*5))=some (.int .i64 (f.Y k).st))) (by kernel_rfl) ?_ (fun hHeld=>?_)
     ·
      exact⟨k0,k1,k2,k3,k4,k5,k6,k7,k8,k9⟩
     refine tk 0 ?_
     refine tk 1 ?_
     refine tk 2 ?_
     refine tk 3 ?_
     refine tk 4 ?_
     refine tk 5 ?_
     refine tk 6 ?_
     refine tk 7 ?_
     refine tk 8 ?_
     refine tk 9 ?_
     refine tk 10 ?_
     refine tk 11 ?_
     refine tk 12 ?_
     refine tk 13 ?_
     refine tk 14 ?_
     refine tk 15 ?_
     refine tk 16 ?_
     refine tk 17 ?_
     refine tk 18 ?_
     refine tk 19 ?_
     refine tk 20 ?_
     refine tk 21 ?_
     refine tf 22 ?_
     refine tf 23 ?_
     refine tf 24 ?_
     refine tf 25 ?_
     refine tf 26 ?_
     refine tf 27 ?_
     refine tf 28 ?_
     refine tf 29 ?_
     refine tf 30 ?_
     refine tk 31 ?_
     refine tk 32 ?_
     refine tf 33 ?_
     refine tf 34 ?_
     refine tf 35 ?_
     refine tf 36 ?_
     refine tf 37 ?_
     refine tf 38 ?_
     refine tf 39 ?_
     refine tf 40 ?_
     refine tf 41 ?_
     refine tk 42 ?_
     refine tk 43 ?_
     refine wpAnyH_done (by kernel_rfl) ?_ _
     generalize wr.drew=WD at MD⊢
     clear k0 k1 k2 k3 k4 k5 k6 k7 k8 k9
     have HD2:Hid (m+1=selN (fun k=>agB p f x k) (k+1)/\updI D m (k:Int)=selD (fun k=>agB p f x k) (k+1)):=⟨by rw[selN_yes (q:=(fun k=>agB p f x k)) HU.out,HD.out.1],by rw[selD_yes (q:=(fun k=>agB p f x k)) HU.out,HD.out.1,HD.out.2]⟩
     have hszr:V0.heap.size<=WD.heap.size:=MD.out.1.size
     have HW:Hid (VOwn V0.heap.size 3 1 WD (.slice va m vc) m (oneF (updI D m (k:Int)))):=MD.out.2.2.congr fun i hi j _=>by simp[oneF,updI,hi]
     have hbx:Box (WD.alloc (.cells #[.int .i64 (k:Int)] 3)) WD.heap.size 3 #[.int .i64 (k:Int)]:=Box.new _ _ _
     have z0:WD.cell? (ad tq 0)=some (.slice va m vc):=MD.out.2.1.cell 0
     go_wp2_with(at_builtin;go_must (refine wpList_vapp _ rfl _ _ 22 rfl V0.heap.size 3 i0 _ 1 8 Tryz.underlying22 hi0 hz0 hs0' hb0 rfl (by decide) (.slice va m vc) m (oneF (updI D m (k:Int))) rfl (HW.out.alloc _) (fun _ _=>rfl) WD.heap.size 1 #[.int .i64 (k:Int)] rfl hbx (by simp[oneF,updI]) (by simp only[maxLen];omega) (by omega) (by simp;omega) (Halt.mk ?_)))
     intro v2 w6 o2 g2
     obtain⟨va2,vc2,rfl⟩:=o2.val
     have M6:Hid (Fr (fun b=>b=tq) V0 w6/\Box w6 tq 141 #[.slice va m vc,.slice none 0 0,.slice none 0 0]):=app_fr MD.out.1 MD.out.2.1 HW.out HTQ.out g2
     have M7:Hid (Fr (fun b=>b=tq) V0 (w6.setCell (ad tq 0) (.slice va2 (m+1) vc2))/\Box (w6.setCell (ad tq 0) (.slice va2 (m+1) vc2)) tq 141 #[.slice va2 (m+1) vc2,.slice none 0 0,.slice none 0 0]/\VOwn V0.heap.size 3 1 (w6.setCell (ad tq 0) (.slice va2 (m+1) vc2)) (.slice va2 (m+1) vc2) (m+1) (oneF (updI D m (k:Int)))):=⟨M6.out.1.cells rfl _ _,M6.out.2.set 0 _,o2.set M6.out.2 (by decide) _ _⟩
     have b0':w6.cell? (ad tq 0)=some (.slice va m vc):=M6.out.2.cell 0
     have f0':=M6.out.2.free 0
     clear o2 g2 HW hbx z0
     go_wp2_with fail
     go_roundw
     case rel=>exact⟨k+1,m+1,va2,vc2,_,by omega,by omega,by go_num,HC3.out,HD2,M7⟩
     case measure=>simp[intOf];omega
    |false=>
     rw[hT] at k8
     obtain⟨u1,HM1⟩:∃u,Hid (meetF (p.Y x).S (p.Y x).ns (p.Y k).O (p.Y k).no=u):=⟨_,rfl⟩
     obtain⟨u2,HM2⟩:∃u,Hid (meetF (p.Y x).O (p.Y x).no (p.Y k).S (p.Y k).ns=u):=⟨_,rfl⟩
     have HUU:Hid (agB p f x k=(u1||u2)):=by rw[Hid,HTT.out,hT,HM1.out,HM2.out];rfl
     cases u1 with
     |true=>
      have HU:Hid (agB p f x k=true):=by rw[Hid,HUU.out];rfl
      refine wp_region_held_drew (S:=(fun wx:World=>wx.cell? (ad w.heap.size 2)=some (.slice (some (ad yb yo)) p.ny yk)/\wx.cell? (ad w.heap.size 3)=some (.slice (some (ad bb bo)) p.nb bk)/\wx.cell? (ad q4 3)=some (.slice (some (ad fb fo)) f.nh hc)/\wx.cell? (ad wq 0)=some (.slice sa (p.Y x).ns sc)/\wx.cell? (ad wq 3)=some (.slice ov (p.Y x).no vc0)/\wx.cell? (ad yb (yo+k*5))=some (.slice ka (p.Y k).ns kac)/\wx.cell? (ad yb (yo+k*5+3))=some (.slice kb (p.Y k).no kbc)/\wx.cell? (ad bb (bo+x))=some (.slice (some (ad rb ro)) p.ny rc)/\wx.cell? (ad rb (ro+k))=some (.bool false)/\wx.cell? (ad fb (fo+k*5))=some (.int .i64 (f.Y k).st))) (by kernel_rfl) ?_ (fun hHeld=>?_)
      ·
       exact⟨k0,k1,k2,k3,k4,k5,k6,k7,k8,k9⟩
      refine tk 0 ?_
      refine tk 1 ?_
      refine tk 2 ?_
      refine tk 3 ?_
      refine tk 4 ?_
      refine tk 5 ?_
      refine tk 6 ?_
      refine tk 7 ?_
      refine tk 8 ?_
      refine tk 9 ?_
      refine tk 10 ?_
      refine tk 11 ?_
      refine tk 12 ?_
      refine tk 13 ?_
      refine tk 14 ?_
      refine tk 15 ?_
      refine tk 16 ?_
      refine tk 17 ?_
      refine tk 18 ?_
      refine tk 19 ?_
      refine tk 20 ?_
      refine tk 21 ?_
      refine tk 22 ?_
      refine tk 23 ?_
      refine tk 24 ?_
      refine tk 25 ?_
      refine tk 26 ?_
      refine tk 27 ?_
      refine tk 28 ?_
      refine tk 29 ?_
      refine rl 30 fun K hK=>?_
      go_simp
      refine(meet26 sa kb (p.Y x).ns (p.Y k).no sc kbc (p.Y x).S (p.Y k).O _ hns hkno (HXS.out.mono nr HBD.out nr) (HKO.out.mono nr HBD.out nr)).mono ?_
      rintro e wz ⟨he,hwz⟩
      have hwz:=hwz.symm
      subst hwz
      rw[HM1.out] at he
      subst he
      go_wp2_with fail
      refine hK.out _ _ ?_ (fun hHeld30=>?_)
      ·
       exact⟨k0,k1,k2,k3,k4,k5,k6,k7,k8,k9⟩
      clear hK K
      refine tk 31 ?_
      refine tk 32 ?_
      refine tf 33 ?_
      refine tf 34 ?_
      refine tf 35 ?_
      refine tf 36 ?_
      refine tf 37 ?_
      refine tf 38 ?_
      refine tf 39 ?_
      refine tf 40 ?_
      refine tf 41 ?_
      refine tk 42 ?_
      refine tk 43 ?_
      refine wpAnyH_done (by kernel_rfl) ?_ _
      generalize wr.drew=WD at MD⊢
      clear k0 k1 k2 k3 k4 k5 k6 k7 k8 k9
      have HD2:Hid (m+1=selN (fun k=>agB p f x k) (k+1)/\updI D m (k:Int)=selD (fun k=>agB p f x k) (k+1)):=⟨by rw[selN_yes (q:=(fun k=>agB p f x k)) HU.out,HD.out.1],by rw[selD_yes (q:=(fun k=>agB p f x k)) HU.out,HD.out.1,HD.out.2]⟩
      have hszr:V0.heap.size<=WD.heap.size:=MD.out.1.size
      have HW:Hid (VOwn V0.heap.size 3 1 WD (.slice va m vc) m (oneF (updI D m (k:Int)))):=MD.out.2.2.congr fun i hi j _=>by simp[oneF,updI,hi]
      have hbx:Box (WD.alloc (.cells #[.int .i64 (k:Int)] 3)) WD.heap.size 3 #[.int .i64 (k:Int)]:=Box.new _ _ _
      have z0:WD.cell? (ad tq 0)=some (.slice va m vc):=MD.out.2.1.cell 0
      go_wp2_with(at_builtin;go_must (refine wpList_vapp _ rfl _ _ 22 rfl V0.heap.size 3 i0 _ 1 8 Tryz.underlying22 hi0 hz0 hs0' hb0 rfl (by decide) (.slice va m vc) m (oneF (updI D m (k:Int))) rfl (HW.out.alloc _) (fun _ _=>rfl) WD.heap.size 1 #[.int .i64 (k:Int)] rfl hbx (by simp[oneF,updI]) (by simp only[maxLen];omega) (by omega) (by simp;omega) (Halt.mk ?_)))
      intro v2 w6 o2 g2
      obtain⟨va2,vc2,rfl⟩:=o2.val
      have M6:Hid (Fr (fun b=>b=tq) V0 w6/\Box w6 tq 141 #[.slice va m vc,.slice none 0 0,.slice none 0 0]):=app_fr MD.out.1 MD.out.2.1 HW.out HTQ.out g2
      have M7:Hid (Fr (fun b=>b=tq) V0 (w6.setCell (ad tq 0) (.slice va2 (m+1) vc2))/\Box (w6.setCell (ad tq 0) (.slice va2 (m+1) vc2)) tq 141 #[.slice va2 (m+1) vc2,.slice none 0 0,.slice none 0 0]/\VOwn V0.heap.size 3 1 (w6.setCell (ad tq 0) (.slice va2 (m+1) vc2)) (.slice va2 (m+1) vc2) (m+1) (oneF (updI D m (k:Int)))):=⟨M6.out.1.cells rfl _ _,M6.out.2.set 0 _,o2.set M6.out.2 (by decide) _ _⟩
      have b0':w6.cell? (ad tq 0)=some (.slice va m vc):=M6.out.2.cell 0
      have f0':=M6.out.2.free 0
      clear o2 g2 HW hbx z0
      go_wp2_with fail
      go_roundw
      case rel=>exact⟨k+1,m+1,va2,vc2,_,by omega,by omega,by go_num,HC3.out,HD2,M7⟩
      case measure=>simp[intOf];omega
     |false=>
      cases u2 with
      |true=>
       have HU:Hid (agB p f x k=true):=by rw[Hid,HUU.out];rfl
       refine wp_region_held_drew (S:=(fun wx:World=>wx.cell? (ad w.heap.size 2)=some (.slice (some (ad yb yo)) p.ny yk)/\wx.cell? (ad w.heap.size 3)=some (.slice (some (ad bb bo)) p.nb bk)/\wx.cell? (ad q4 3)=some (.slice (some (ad fb fo)) f.nh hc)/\wx.cell? (ad wq 0)=some (.slice sa (p.Y x).ns sc)/\wx.cell? (ad wq 3)=some (.slice ov (p.Y x).no vc0)/\wx.cell? (ad yb (yo+k*5))=some (.slice ka (p.Y k).ns kac)/\wx.cell? (ad yb (yo+k*5+3))=some (.slice kb (p.Y k).no kbc)/\wx.cell? (ad bb (bo+x))=some (.slice (some (ad rb ro)) p.ny rc)/\wx.cell? (ad rb (ro+k))=some (.bool false)/\wx.cell? (ad fb (fo+k*5))=some (.int .i64 (f.Y k).st))) (by kernel_rfl) ?_ (fun hHeld=>?_)
       ·
        exact⟨k0,k1,k2,k3,k4,k5,k6,k7,k8,k9⟩
       refine tk 0 ?_
       refine tk 1 ?_
       refine tk 2 ?_
       refine tk 3 ?_
       refine tk 4 ?_
       refine tk 5 ?_
       refine tk 6 ?_
       refine tk 7 ?_
       refine tk 8 ?_
       refine tk 9 ?_
       refine tk 10 ?_
       refine tk 11 ?_
       refine tk 12 ?_
       refine tk 13 ?_
       refine tk 14 ?_
       refine tk 15 ?_
       refine tk 16 ?_
       refine tk 17 ?_
       refine tk 18 ?_
       refine tk 19 ?_
       refine tk 20 ?_
       refine tk 21 ?_
       refine tk 22 ?_
       refine tk 23 ?_
       refine tk 24 ?_
       refine tk 25 ?_
       refine tk 26 ?_
       refine tk 27 ?_
       refine tk 28 ?_
       refine tk 29 ?_
       refine rl 30 fun K hK=>?_
       go_simp
       refine(meet26 sa kb (p.Y x).ns (p.Y k).no sc kbc (p.Y x).S (p.Y k).O _ hns hkno (HXS.out.mono nr HBD.out nr) (HKO.out.mono nr HBD.out nr)).mono ?_
       rintro e wz ⟨he,hwz⟩
       have hwz:=hwz.symm
       subst hwz
       rw[HM1.out] at he
       subst he
       go_wp2_with fail
       refine hK.out _ _ ?_ (fun hHeld30=>?_)
       ·
        exact⟨k0,k1,k2,k3,k4,k5,k6,k7,k8,k9⟩
       clear hK K
       refine tk 31 ?_
       refine tk 32 ?_
       refine tk 33 ?_
       refine tk 34 ?_
       refine tk 35 ?_
       refine tk 36 ?_
       refine tk 37 ?_
       refine tk 38 ?_
       refine tk 39 ?_
       refine tk 40 ?_
       refine rl 41 fun K hK=>?_
       go_simp
       refine(meet26 ov ka (p.Y x).no (p.Y k).ns vc0 kac (p.Y x).O (p.Y k).S _ hnov hkns (HXO.out.mono nr HBD.out nr) (HKS.out.mono nr HBD.out nr)).mono ?_
       rintro e wz ⟨he,hwz⟩
       have hwz:=hwz.symm
       subst hwz
       rw[HM2.out] at he
       subst he
       go_wp2_with fail
       refine hK.out _ _ ?_ (fun hHeld41=>?_)
       ·
        exact⟨k0,k1,k2,k3,k4,k5,k6,k7,k8,k9⟩
       clear hK K
       refine tk 42 ?_
       refine tk 43 ?_
       refine wpAnyH_done (by kernel_rfl) ?_ _
       generalize wr.drew=WD at MD⊢
       clear k0 k1 k2 k3 k4 k5 k6 k7 k8 k9
       have HD2:Hid (m+1=selN (fun k=>agB p f x k) (k+1)/\updI D m (k:Int)=selD (fun k=>agB p f x k) (k+1)):=⟨by rw[selN_yes (q:=(fun k=>agB p f x k)) HU.out,HD.out.1],by rw[selD_yes (q:=(fun k=>agB p f x k)) HU.out,HD.out.1,HD.out.2]⟩
       have hszr:V0.heap.size<=WD.heap.size:=MD.out.1.size
       have HW:Hid (VOwn V0.heap.size 3 1 WD (.slice va m vc) m (oneF (updI D m (k:Int)))):=MD.out.2.2.congr fun i hi j _=>by simp[oneF,updI,hi]
       have hbx:Box (WD.alloc (.cells #[.int .i64 (k:Int)] 3)) WD.heap.size 3 #[.int .i64 (k:Int)]:=Box.new _ _ _
       have z0:WD.cell? (ad tq 0)=some (.slice va m vc):=MD.out.2.1.cell 0
       go_wp2_with(at_builtin;go_must (refine wpList_vapp _ rfl _ _ 22 rfl V0.heap.size 3 i0 _ 1 8 Tryz.underlying22 hi0 hz0 hs0' hb0 rfl (by decide) (.slice va m vc) m (oneF (updI D m (k:Int))) rfl (HW.out.alloc _) (fun _ _=>rfl) WD.heap.size 1 #[.int .i64 (k:Int)] rfl hbx (by simp[oneF,updI]) (by simp only[maxLen];omega) (by omega) (by simp;omega) (Halt.mk ?_)))
       intro v2 w6 o2 g2
       obtain⟨va2,vc2,rfl⟩:=o2.val
       have M6:Hid (Fr (fun b=>b=tq) V0 w6/\Box w6 tq 141 #[.slice va m vc,.slice none 0 0,.slice none 0 0]):=app_fr MD.out.1 MD.out.2.1 HW.out HTQ.out g2
       have M7:Hid (Fr (fun b=>b=tq) V0 (w6.setCell (ad tq 0) (.slice va2 (m+1) vc2))/\Box (w6.setCell (ad tq 0) (.slice va2 (m+1) vc2)) tq 141 #[.slice va2 (m+1) vc2,.slice none 0 0,.slice none 0 0]/\VOwn V0.heap.size 3 1 (w6.setCell (ad tq 0) (.slice va2 (m+1) vc2)) (.slice va2 (m+1) vc2) (m+1) (oneF (updI D m (k:Int)))):=⟨M6.out.1.cells rfl _ _,M6.out.2.set 0 _,o2.set M6.out.2 (by decide) _ _⟩
       have b0':w6.cell? (ad tq 0)=some (.slice va m vc):=M6.out.2.cell 0
       have f0':=M6.out.2.free 0
       clear o2 g2 HW hbx z0
       go_wp2_with fail
       go_roundw
       case rel=>exact⟨k+1,m+1,va2,vc2,_,by omega,by omega,by go_num,HC3.out,HD2,M7⟩
       case measure=>simp[intOf];omega
      |false=>
       have HU:Hid (agB p f x k=false):=by rw[Hid,HUU.out];rfl
       refine wp_region_held_drew (S:=(fun wx:World=>wx.cell? (ad w.heap.size 2)=some (.slice (some (ad yb yo)) p.ny yk)/\wx.cell? (ad w.heap.size 3)=some (.slice (some (ad bb bo)) p.nb bk)/\wx.cell? (ad q4 3)=some (.slice (some (ad fb fo)) f.nh hc)/\wx.cell? (ad wq 0)=some (.slice sa (p.Y x).ns sc)/\wx.cell? (ad wq 3)=some (.slice ov (p.Y x).no vc0)/\wx.cell? (ad yb (yo+k*5))=some (.slice ka (p.Y k).ns kac)/\wx.cell? (ad yb (yo+k*5+3))=some (.slice kb (p.Y k).no kbc)/\wx.cell? (ad bb (bo+x))=some (.slice (some (ad rb ro)) p.ny rc)/\wx.cell? (ad rb (ro+k))=some (.bool false)/\wx.cell? (ad fb (fo+k*5))=some (.int .i64 (f.Y k).st))) (by kernel_rfl) ?_ (fun hHeld=>?_)
       ·
        exact⟨k0,k1,k2,k3,k4,k5,k6,k7,k8,k9⟩
       refine tk 0 ?_
       refine tk 1 ?_
       refine tk 2 ?_
       refine tk 3 ?_
       refine tk 4 ?_
       refine tk 5 ?_
       refine tk 6 ?_
       refine tk 7 ?_
       refine tk 8 ?_
       refine tk 9 ?_
       refine tk 10 ?_
       refine tk 11 ?_
       refine tk 12 ?_
       refine tk 13 ?_
       refine tk 14 ?_
       refine tk 15 ?_
       refine tk 16 ?_
       refine tk 17 ?_
       refine tk 18 ?_
       refine tk 19 ?_
       refine tk 20 ?_
       refine tk 21 ?_
       refine tk 22 ?_
       refine tk 23 ?_
       refine tk 24 ?_
       refine tk 25 ?_
       refine tk 26 ?_
       refine tk 27 ?_
       refine tk 28 ?_
       refine tk 29 ?_
       refine rl 30 fun K hK=>?_
       go_simp
       refine(meet26 sa kb (p.Y x).ns (p.Y k).no sc kbc (p.Y x).S (p.Y k).O _ hns hkno (HXS.out.mono nr HBD.out nr) (HKO.out.mono nr HBD.out nr)).mono ?_
       rintro e wz ⟨he,hwz⟩
       have hwz:=hwz.symm
       subst hwz
       rw[HM1.out] at he
       subst he
       go_wp2_with fail
       refine hK.out _ _ ?_ (fun hHeld30=>?_)
       ·
        exact⟨k0,k1,k2,k3,k4,k5,k6,k7,k8,k9⟩
       clear hK K
       refine tk 31 ?_
       refine tk 32 ?_
       refine tk 33 ?_
       refine tk 34 ?_
       refine tk 35 ?_
       refine tk 36 ?_
       refine tk 37 ?_
       refine tk 38 ?_
       refine tk 39 ?_
       refine tk 40 ?_
       refine rl 41 fun K hK=>?_
       go_simp
       refine(meet26 ov ka (p.Y x).no (p.Y k).ns vc0 kac (p.Y x).O (p.Y k).S _ hnov hkns (HXO.out.mono nr HBD.out nr) (HKS.out.mono nr HBD.out nr)).mono ?_
       rintro e wz ⟨he,hwz⟩
       have hwz:=hwz.symm
       subst hwz
       rw[HM2.out] at he
       subst he
       go_wp2_with fail
       refine hK.out _ _ ?_ (fun hHeld41=>?_)
       ·
        exact⟨k0,k1,k2,k3,k4,k5,k6,k7,k8,k9⟩
       clear hK K
       refine tk 42 ?_
       refine tk 43 ?_
       refine wpAnyH_done (by kernel_rfl) ?_ _
       have HD2:Hid (m=selN (fun k=>agB p f x k) (k+1)/\D=selD (fun k=>agB p f x k) (k+1)):=⟨HD.out.1.trans (selN_no (q:=(fun k=>agB p f x k)) HU.out).symm,HD.out.2.trans (selD_no (q:=(fun k=>agB p f x k)) HU.out).symm⟩
       go_wp2_with fail
       go_roundw
       case rel=>exact⟨k+1,m,va,vc,D,by omega,by omega,by go_num,rfl,HD2,MD⟩
       case measure=>simp[intOf];omega
   ·
    obtain rfl:k=p.ny:=by omega
    have hge:¬((p.ny:Int)<(p.ny:Int)):=by omega
    go_wp2_with fail
    go_meet
    case rel=>exact⟨_,m,va,vc,D,rfl,rfl,hm,HD,M⟩
 case rest=>
  obtain⟨cd,m1,a1,c1,D1,rfl,hcd,hm1,HD1,M1⟩:=hcut
  obtain⟨W1,hW1⟩:∃W,W=wc:=⟨wc,rfl⟩
  rw[<-hW1] at M1
  rw[<-hW1]
  clear hW1
  have HCD1:Hid (cd=cd1 m1):=hcd
  clear hcd
  have HT1:Hid (tq<W1.heap.size):=Nat.lt_of_lt_of_le HTQ.out M1.out.1.size
  have HS1:Hid (∀W,Fr (fun b=>b=tq) W1 W->(Below w.heap.size w W/\Box W w.heap.size 37 (vPl p wa wk (some (ad yb yo)) yk (some (ad bb bo)) bk)/\Box W q4 42 (vFr f (some (ad ob oo)) oc (some (ad pb po)) pc (some (ad fb fo)) hc)/\Box W q6 141 z3v/\Box W wq 112 (vWy (p.Y x) sa sc la lc fa fc ov vc0 ma mc))/\VOwn V0.heap.size 3 1 W (.slice a1 m1 c1) m1 (oneF D1)):=fun W hF=>⟨HST.out W (M1.out.1.trans hF),M1.out.2.2.fr hF fun g hg=>M1.out.2.2.off M1.out.2.1 (by decide) hg⟩
  have hsec0:(f.no:Int)=p.sec:=H.out.2.2.2.2.2.2.2.2.1
  have HSEC:Hid ((f.no:Int)=p.sec):=hsec0
  have hsp:0<=p.sec:=by omega
  have hsq:p.sec<=1048576:=by omega
  clear hsec0
  go_upto_block 2 with fail
  go_cut [9,12] from 20 (fun s9 s12 wx=>∃(m:Nat) (va:Option Addr) (vc:Nat) (D:Nat->Int),s9=.int .i64 (cd2 cd m)/\m<=f.no/\Hid (m=selN (scQ p f.O x) f.no/\D=selD (scQ p f.O x) f.no)/\Hid (Fr (fun b=>b=tq) W1 wx/\Box wx tq 141 #[.slice a1 m1 c1,.slice va m vc,.slice none 0 0]/\VOwn W1.heap.size 3 1 wx (.slice va m vc) m (oneF D)))
  case first =>
   go_wp2_with fail
   go_loopw [9,12] (fun s9 c wr=>∃(k m:Nat) (va:Option Addr) (vc:Nat) (D:Nat->Int),(k:Int)<=p.sec/\m<=k/\c=.int .i64 (k:Int)/\s9=.int .i64 (cd2 cd m)/\Hid (m=selN (scQ p f.O x) k/\D=selD (scQ p f.O x) k)/\Hid (Fr (fun b=>b=tq) W1 wr/\Box wr tq 141 #[.slice a1 m1 c1,.slice va m vc,.slice none 0 0]/\VOwn W1.heap.size 3 1 wr (.slice va m vc) m (oneF D))) (fun _ c _=>p.sec.toNat-(intOf c).toNat)
   case atStart=>exact⟨0,0,none,0,fun _=>0,hsp,Nat.le_refl _,rfl,rfl,⟨rfl,rfl⟩,Fr.refl _ _,M1.out.2.1,VOwn.nil _ _ _ _ _⟩
   case round=>
    obtain⟨k,m,va,vc,D,hk,hm,rfl,rfl,HD,M⟩:=hrel
    have HV:=(HS1.out wr M.out.1).1
    have d0:wr.cell? (ad w.heap.size 0)=some (.int .i64 p.sec):=HV.2.1.cell 0
    by_cases hlt:(k:Int)<p.sec
    ·
     have hk0:(0:Int)<=(k:Int):=by omega
     have hkn0:k<f.no:=by have :=HSEC.out;omega
     have hkn:(k:Int)<(f.no:Int):=by omega
     have d1:wr.cell? (ad q4 1)=some (.slice (some (ad ob oo)) f.no oc):=HV.2.2.1.cell 1
     have d3:wr.cell? (ad wq 0)=some (.slice sa (p.Y x).ns sc):=HV.2.2.2.2.cell 0
     have d4:wr.cell? (ad wq 3)=some (.slice ov (p.Y x).no vc0):=HV.2.2.2.2.cell 3
     have o0:wr.cell? (ad ob (oo+k))=some (.bool (f.O k)):=by
      obtain⟨ob2,oo2,hoa,_,_,hco⟩:=H.out.2.1.o.mono nr HV.1 nr (by omega)
      cases hoa
      have :=hco k hkn0 0 (by omega)
      rwa [Nat.mul_one] at this
     have hwq:wq<wr.heap.size:=HV.2.2.2.2.lt
     cases hO:f.O k with
     |false=>
      have HU:Hid (scQ p f.O x k=false):=by rw[Hid,scQ,hO];rfl
      rw[hO] at o0
      clear HV
      have HD2:Hid (m=selN (scQ p f.O x) (k+1)/\D=selD (scQ p f.O x) (k+1)):=⟨HD.out.1.trans (selN_no (q:=(scQ p f.O x)) HU.out).symm,HD.out.2.trans (selD_no (q:=(scQ p f.O x)) HU.out).symm⟩
      go_wp2_with fail
      go_roundw
      case rel=>exact⟨k+1,m,va,vc,D,by omega,by omega,by go_num,rfl,HD2,M⟩
      case measure=>simp[intOf];omega
     |true=>
      rw[hO] at o0
      have T1:Hid ((Fr (fun b=>b=tq) W1 (wr.alloc (.cells #[.int .i64 (k:Int)] 3))/\Box (wr.alloc (.cells #[.int .i64 (k:Int)] 3)) tq 141 #[.slice a1 m1 c1,.slice va m vc,.slice none 0 0]/\VOwn W1.heap.size 3 1 (wr.alloc (.cells #[.int .i64 (k:Int)] 3)) (.slice va m vc) m (oneF D))/\Below w.heap.size w (wr.alloc (.cells #[.int .i64 (k:Int)] 3))/\Box (wr.alloc (.cells #[.int .i64 (k:Int)] 3)) wr.heap.size 3 #[.int .i64 (k:Int)]/\Box (wr.alloc (.cells #[.int .i64 (k:Int)] 3)) wq 112 (vWy (p.Y x) sa sc la lc fa fc ov vc0 ma mc)):=⟨⟨M.out.1.trans (Fr.of_below (bel1 _ _)),M.out.2.1.alloc _,M.out.2.2.alloc _⟩,HV.1.alloc HV.1.size _,Box.new _ _ _,HV.2.2.2.2.alloc _⟩
      clear HV M
      go_wp2_with fail
      clear d0 d1 d3 d4 o0 hwq
      generalize (wr.alloc (.cells #[.int .i64 (k:Int)] 3))=W5 at T1⊢
      generalize wr.heap.size=uq at T1⊢
      refine(meet26 (some (ad uq 0)) sa 1 (p.Y x).ns 1 sc (fun _=>(k:Int)) (p.Y x).S W5 (by omega) hns (vs_one T1.out.2.2.1) (HXS.out.mono nr T1.out.2.1 nr)).mono ?_
      rintro e wz ⟨he,hwz⟩
      have hwz:=hwz.symm
      subst hwz
      rw[meet_one] at he
      obtain⟨u1,HM1⟩:∃u,Hid (anyB (fun j=>decide ((p.Y x).S j=(k:Int))) (p.Y x).ns=u):=⟨_,rfl⟩
      rw[HM1.out] at he
      subst he
      cases u1 with
      |true=>
       have HU:Hid (scQ p f.O x k=true):=by rw[Hid,scQ,hO,HM1.out];rfl
       have T2:Hid (Fr (fun b=>b=tq) W1 W5/\Box W5 tq 141 #[.slice a1 m1 c1,.slice va m vc,.slice none 0 0]/\VOwn W1.heap.size 3 1 W5 (.slice va m vc) m (oneF D)):=T1.out.1
       clear T1
       have HD2:Hid (m+1=selN (scQ p f.O x) (k+1)/\updI D m (k:Int)=selD (scQ p f.O x) (k+1)):=⟨by rw[selN_yes (q:=(scQ p f.O x)) HU.out,HD.out.1],by rw[selD_yes (q:=(scQ p f.O x)) HU.out,HD.out.1,HD.out.2]⟩
       have hszr:W1.heap.size<=W5.heap.size:=T2.out.1.size
       have HW:Hid (VOwn W1.heap.size 3 1 W5 (.slice va m vc) m (oneF (updI D m (k:Int)))):=T2.out.2.2.congr fun i hi j _=>by simp[oneF,updI,hi]
       have hbx:Box (W5.alloc (.cells #[.int .i64 (k:Int)] 3)) W5.heap.size 3 #[.int .i64 (k:Int)]:=Box.new _ _ _
       have z0:W5.cell? (ad tq 1)=some (.slice va m vc):=T2.out.2.1.cell 1
       go_wp2_with(at_builtin;go_must (refine wpList_vapp _ rfl _ _ 22 rfl W1.heap.size 3 i0 _ 1 8 Tryz.underlying22 hi0 hz0 hs0' hb0 rfl (by decide) (.slice va m vc) m (oneF (updI D m (k:Int))) rfl (HW.out.alloc _) (fun _ _=>rfl) W5.heap.size 1 #[.int .i64 (k:Int)] rfl hbx (by simp[oneF,updI]) (by simp only[maxLen];omega) (by omega) (by simp;omega) (Halt.mk ?_)))
       intro v2 w6 o2 g2
       obtain⟨va2,vc2,rfl⟩:=o2.val
       have M6:Hid (Fr (fun b=>b=tq) W1 w6/\Box w6 tq 141 #[.slice a1 m1 c1,.slice va m vc,.slice none 0 0]):=app_fr T2.out.1 T2.out.2.1 HW.out HT1.out g2
       have M7:Hid (Fr (fun b=>b=tq) W1 (w6.setCell (ad tq 1) (.slice va2 (m+1) vc2))/\Box (w6.setCell (ad tq 1) (.slice va2 (m+1) vc2)) tq 141 #[.slice a1 m1 c1,.slice va2 (m+1) vc2,.slice none 0 0]/\VOwn W1.heap.size 3 1 (w6.setCell (ad tq 1) (.slice va2 (m+1) vc2)) (.slice va2 (m+1) vc2) (m+1) (oneF (updI D m (k:Int)))):=⟨M6.out.1.cells rfl _ _,M6.out.2.set 1 _,o2.set M6.out.2 (by decide) _ _⟩
       have b0':w6.cell? (ad tq 1)=some (.slice va m vc):=M6.out.2.cell 1
       have f0':=M6.out.2.free 1
       clear o2 g2 HW hbx z0
       by_cases hz:cd2 cd m=0
       ·
        have HCD:Hid ((Value.int .i64 4)=.int .i64 (cd2 cd (m+1))):=by rw[Hid,cd2_zero hz]
        have yy:(cd2 cd m==0)=true:=by simpa using hz
        clear hz
        go_wp2_with fail
        go_roundw
        case rel=>exact⟨k+1,m+1,va2,vc2,_,by omega,by omega,by go_num,HCD.out,HD2,M7⟩
        case measure=>simp[intOf];omega
       ·
        have HCD:Hid ((Value.int .i64 (cd2 cd m))=.int .i64 (cd2 cd (m+1))):=by rw[Hid,cd2_same hz]
        have yy:(cd2 cd m==0)=false:=by simpa using hz
        clear hz
        go_wp2_with fail
        go_roundw
        case rel=>exact⟨k+1,m+1,va2,vc2,_,by omega,by omega,by go_num,HCD.out,HD2,M7⟩
        case measure=>simp[intOf];omega
      |false=>
       have T3:Hid ((Fr (fun b=>b=tq) W1 (W5.alloc (.cells #[.int .i64 (k:Int)] 3))/\Box (W5.alloc (.cells #[.int .i64 (k:Int)] 3)) tq 141 #[.slice a1 m1 c1,.slice va m vc,.slice none 0 0]/\VOwn W1.heap.size 3 1 (W5.alloc (.cells #[.int .i64 (k:Int)] 3)) (.slice va m vc) m (oneF D))/\Below w.heap.size w (W5.alloc (.cells #[.int .i64 (k:Int)] 3))/\Box (W5.alloc (.cells #[.int .i64 (k:Int)] 3)) W5.heap.size 3 #[.int .i64 (k:Int)]):=⟨⟨T1.out.1.1.trans (Fr.of_below (bel1 _ _)),T1.out.1.2.1.alloc _,T1.out.1.2.2.alloc _⟩,T1.out.2.1.alloc T1.out.2.1.size _,Box.new _ _ _⟩
       have d4:W5.cell? (ad wq 3)=some (.slice ov (p.Y x).no vc0):=T1.out.2.2.2.cell 3
       have hwq:wq<W5.heap.size:=T1.out.2.2.2.lt
       clear T1
       go_wp2_with fail
       clear d4 hwq
       generalize W5.alloc (.cells #[.int .i64 (k:Int)] 3)=W7 at T3⊢
       generalize W5.heap.size=tq2 at T3⊢
       refine(meet26 (some (ad tq2 0)) ov 1 (p.Y x).no 1 vc0 (fun _=>(k:Int)) (p.Y x).O W7 (by omega) hnov (vs_one T3.out.2.2) (HXO.out.mono nr T3.out.2.1 nr)).mono ?_
       rintro e wz ⟨he,hwz⟩
       have hwz:=hwz.symm
       subst hwz
       rw[meet_one] at he
       obtain⟨u2,HM2⟩:∃u,Hid (anyB (fun j=>decide ((p.Y x).O j=(k:Int))) (p.Y x).no=u):=⟨_,rfl⟩
       rw[HM2.out] at he
       subst he
       have T4:Hid (Fr (fun b=>b=tq) W1 W7/\Box W7 tq 141 #[.slice a1 m1 c1,.slice va m vc,.slice none 0 0]/\VOwn W1.heap.size 3 1 W7 (.slice va m vc) m (oneF D)):=T3.out.1
       clear T3
       cases u2 with
       |true=>
        have HU:Hid (scQ p f.O x k=true):=by rw[Hid,scQ,hO,HM1.out,HM2.out];rfl
        have HD2:Hid (m+1=selN (scQ p f.O x) (k+1)/\updI D m (k:Int)=selD (scQ p f.O x) (k+1)):=⟨by rw[selN_yes (q:=(scQ p f.O x)) HU.out,HD.out.1],by rw[selD_yes (q:=(scQ p f.O x)) HU.out,HD.out.1,HD.out.2]⟩
        have hszr:W1.heap.size<=W7.heap.size:=T4.out.1.size
        have HW:Hid (VOwn W1.heap.size 3 1 W7 (.slice va m vc) m (oneF (updI D m (k:Int)))):=T4.out.2.2.congr fun i hi j _=>by simp[oneF,updI,hi]
        have hbx:Box (W7.alloc (.cells #[.int .i64 (k:Int)] 3)) W7.heap.size 3 #[.int .i64 (k:Int)]:=Box.new _ _ _
        have z0:W7.cell? (ad tq 1)=some (.slice va m vc):=T4.out.2.1.cell 1
        go_wp2_with(at_builtin;go_must (refine wpList_vapp _ rfl _ _ 22 rfl W1.heap.size 3 i0 _ 1 8 Tryz.underlying22 hi0 hz0 hs0' hb0 rfl (by decide) (.slice va m vc) m (oneF (updI D m (k:Int))) rfl (HW.out.alloc _) (fun _ _=>rfl) W7.heap.size 1 #[.int .i64 (k:Int)] rfl hbx (by simp[oneF,updI]) (by simp only[maxLen];omega) (by omega) (by simp;omega) (Halt.mk ?_)))
        intro v2 w6 o2 g2
        obtain⟨va2,vc2,rfl⟩:=o2.val
        have M6:Hid (Fr (fun b=>b=tq) W1 w6/\Box w6 tq 141 #[.slice a1 m1 c1,.slice va m vc,.slice none 0 0]):=app_fr T4.out.1 T4.out.2.1 HW.out HT1.out g2
        have M7:Hid (Fr (fun b=>b=tq) W1 (w6.setCell (ad tq 1) (.slice va2 (m+1) vc2))/\Box (w6.setCell (ad tq 1) (.slice va2 (m+1) vc2)) tq 141 #[.slice a1 m1 c1,.slice va2 (m+1) vc2,.slice none 0 0]/\VOwn W1.heap.size 3 1 (w6.setCell (ad tq 1) (.slice va2 (m+1) vc2)) (.slice va2 (m+1) vc2) (m+1) (oneF (updI D m (k:Int)))):=⟨M6.out.1.cells rfl _ _,M6.out.2.set 1 _,o2.set M6.out.2 (by decide) _ _⟩
        have b0':w6.cell? (ad tq 1)=some (.slice va m vc):=M6.out.2.cell 1
        have f0':=M6.out.2.free 1
        clear o2 g2 HW hbx z0
        by_cases hz:cd2 cd m=0
        ·
         have HCD:Hid ((Value.int .i64 4)=.int .i64 (cd2 cd (m+1))):=by rw[Hid,cd2_zero hz]
         have yy:(cd2 cd m==0)=true:=by simpa using hz
         clear hz
         go_wp2_with fail
         go_roundw
         case rel=>exact⟨k+1,m+1,va2,vc2,_,by omega,by omega,by go_num,HCD.out,HD2,M7⟩
         case measure=>simp[intOf];omega
        ·
         have HCD:Hid ((Value.int .i64 (cd2 cd m))=.int .i64 (cd2 cd (m+1))):=by rw[Hid,cd2_same hz]
         have yy:(cd2 cd m==0)=false:=by simpa using hz
         clear hz
         go_wp2_with fail
         go_roundw
         case rel=>exact⟨k+1,m+1,va2,vc2,_,by omega,by omega,by go_num,HCD.out,HD2,M7⟩
         case measure=>simp[intOf];omega
       |false=>
        have HU:Hid (scQ p f.O x k=false):=by rw[Hid,scQ,hO,HM1.out,HM2.out];rfl
        have HD2:Hid (m=selN (scQ p f.O x) (k+1)/\D=selD (scQ p f.O x) (k+1)):=⟨HD.out.1.trans (selN_no (q:=(scQ p f.O x)) HU.out).symm,HD.out.2.trans (selD_no (q:=(scQ p f.O x)) HU.out).symm⟩
        go_wp2_with fail
        go_roundw
        case rel=>exact⟨k+1,m,va,vc,D,by omega,by omega,by go_num,rfl,HD2,T4⟩
        case measure=>simp[intOf];omega
    ·
     have hkk:k=f.no:=by have :=HSEC.out;omega
     clear HV
     subst hkk
     go_wp2_with fail
     go_meet
     case rel=>exact⟨m,va,vc,D,rfl,hm,HD,M⟩
  case rest=>
   obtain⟨m2,a2,c2,D2,rfl,hm2,HD2',M2⟩:=hcut
   obtain⟨W2,hW2⟩:∃W,W=wc:=⟨wc,rfl⟩
   rw[<-hW2] at M2
   rw[<-hW2]
   clear hW2
   have HT2:Hid (tq<W2.heap.size):=Nat.lt_of_lt_of_le HT1.out M2.out.1.size
   have HS2:Hid (∀W,Fr (fun b=>b=tq) W2 W->(Below w.heap.size w W/\Box W w.heap.size 37 (vPl p wa wk (some (ad yb yo)) yk (some (ad bb bo)) bk)/\Box W q4 42 (vFr f (some (ad ob oo)) oc (some (ad pb po)) pc (some (ad fb fo)) hc)/\Box W q6 141 z3v/\Box W wq 112 (vWy (p.Y x) sa sc la lc fa fc ov vc0 ma mc))/\VOwn V0.heap.size 3 1 W (.slice a1 m1 c1) m1 (oneF D1)/\VOwn W1.heap.size 3 1 W (.slice a2 m2 c2) m2 (oneF D2)):=fun W hF=>⟨(HS1.out W (M2.out.1.trans hF)).1,(HS1.out W (M2.out.1.trans hF)).2,M2.out.2.2.fr hF fun g hg=>M2.out.2.2.off M2.out.2.1 (by decide) hg⟩
   have HB1:Hid (∀g,(.slice a1 m1 c1:Value).ownBlock=some g->g<W1.heap.size):=fun g hg=>(M1.out.2.2.lt hg).2
   have HB2:Hid (∀g,(.slice a2 m2 c2:Value).ownBlock=some g->W1.heap.size<=g/\g<W2.heap.size):=fun g hg=>M2.out.2.2.lt hg
   obtain⟨c9,HC9⟩:∃c,Hid (cd2 cd m2=c):=⟨_,rfl⟩
   rw[HC9.out]
   have d1:W2.cell? (ad w.heap.size 1)=some (.slice wa p.nw wk):=(HS2.out W2 (Fr.refl _ _)).1.2.1.cell 1
   go_wp2_with fail
   clear d1
   go_loopw [13,118] (fun s13 c wr=>∃(k m:Nat) (va:Option Addr) (vc:Nat) (D:Nat->Int),k<=p.nw/\m<=k/\c=.int .i64 (k:Int)/\s13=.int .i64 (hdF (swB p f x) (wnF p f) k)/\Hid (m=selN (swB p f x) k/\D=selD (swB p f x) k)/\Hid (Fr (fun b=>b=tq) W2 wr/\Box wr tq 141 #[.slice a1 m1 c1,.slice a2 m2 c2,.slice va m vc]/\VOwn W2.heap.size 3 1 wr (.slice va m vc) m (oneF D))) (fun _ c _=>p.nw-(intOf c).toNat)
   case atStart=>exact⟨0,0,none,0,fun _=>0,Nat.zero_le _,Nat.le_refl _,rfl,rfl,⟨rfl,rfl⟩,Fr.refl _ _,M2.out.2.1,VOwn.nil _ _ _ _ _⟩
   case round=>
    obtain⟨k,m,va,vc,D,hk,hm,rfl,rfl,HD,M⟩:=hrel
    by_cases hlt:k<p.nw
    ·
     have hk0:(0:Int)<=(k:Int):=by omega
     have hkn:(k:Int)<(p.nw:Int):=by omega
     have HV:=(HS2.out wr M.out.1).1
     have d1:wr.cell? (ad wq 1)=some (.slice la (p.Y x).nl lc):=HV.2.2.2.2.cell 1
     have d2:wr.cell? (ad wq 2)=some (.slice fa (p.Y x).nf fc):=HV.2.2.2.2.cell 2
     have T1:Hid ((Fr (fun b=>b=tq) W2 (wr.alloc (.cells #[.slice la (p.Y x).nl lc,.slice fa (p.Y x).nf fc] 110))/\Box (wr.alloc (.cells #[.slice la (p.Y x).nl lc,.slice fa (p.Y x).nf fc] 110)) tq 141 #[.slice a1 m1 c1,.slice a2 m2 c2,.slice va m vc]/\VOwn W2.heap.size 3 1 (wr.alloc (.cells #[.slice la (p.Y x).nl lc,.slice fa (p.Y x).nf fc] 110)) (.slice va m vc) m (oneF D))/\Box (wr.alloc (.cells #[.slice la (p.Y x).nl lc,.slice fa (p.Y x).nf fc] 110)) wr.heap.size 110 #[.slice la (p.Y x).nl lc,.slice fa (p.Y x).nf fc]):=⟨⟨M.out.1.trans (Fr.of_below (bel1 _ _)),M.out.2.1.alloc _,M.out.2.2.alloc _⟩,Box.new _ _ _⟩
     clear HV
     go_upto_block 6 with fail
     clear d1 d2 M
     generalize (wr.alloc (.cells #[.slice la (p.Y x).nl lc,.slice fa (p.Y x).nf fc] 110))=WR at T1⊢
     generalize wr.heap.size=lq at T1⊢
     have HRW:Hid (Below w.heap.size w WR):=(HS2.out WR T1.out.1.1).1.1
     go_cut [15,17,19] from 121 to 144 (fun s15 s17 s19 wx=>s15=.int .i64 (lieN (cat (p.Y x).nl (p.Y x).L (p.Y x).F) k ((p.Y x).nl+(p.Y x).nf))/\Hid (Below WR.heap.size WR wx))
     case first =>
      have HBI:Hid (Below WR.heap.size WR WR):=Below.refl _ _
      go_wp2_with fail
      go_loopw [15,127] (fun l c wr=>((c=.int .i64 0/\l=.int .i64 (lieN (cat (p.Y x).nl (p.Y x).L (p.Y x).F) k (0+0)))\/(c=.int .i64 1/\l=.int .i64 (lieN (cat (p.Y x).nl (p.Y x).L (p.Y x).F) k ((p.Y x).nl+0)))\/(c=.int .i64 2/\l=.int .i64 (lieN (cat (p.Y x).nl (p.Y x).L (p.Y x).F) k ((p.Y x).nl+(p.Y x).nf))))/\Hid (Below WR.heap.size WR wr)) (fun _ c _=>2-(intOf c).toNat)
      case atStart=>exact⟨.inl ⟨rfl,rfl⟩,HBI⟩
      case round=>
       clear HBI
       obtain⟨hcs,HBI⟩:=hrel
       have e0:wr.cell? (ad lq 0)=some (.slice la (p.Y x).nl lc):=(T1.out.2.mono HBI.out nr).cell 0
       have e1:wr.cell? (ad lq 1)=some (.slice fa (p.Y x).nf fc):=(T1.out.2.mono HBI.out nr).cell 1
       rcases hcs with⟨rfl,rfl⟩|⟨rfl,rfl⟩|⟨rfl,rfl⟩
       ·
        go_wp2_with fail
        obtain⟨WI,hWI⟩:∃W,W=wr:=⟨wr,rfl⟩
        rw[<-hWI] at HBI
        rw[<-hWI]
        clear hWI
        go_loopw [15,133] (fun l c wi=>∃i:Nat,i<=(p.Y x).nl/\c=.int .i64 (i:Int)/\l=.int .i64 (lieN (cat (p.Y x).nl (p.Y x).L (p.Y x).F) k (0+i))/\Hid (Below WR.heap.size WR wi)) (fun _ c _=>(p.Y x).nl-(intOf c).toNat)
        case atStart=>exact⟨0,Nat.zero_le _,rfl,rfl,HBI⟩
        case round=>
         clear HBI
         obtain⟨i,hi,rfl,rfl,HBI⟩:=hrel
         by_cases hil:i<(p.Y x).nl
         ·
          obtain⟨g,go,rfl,_,hgl,hgc⟩:=HXL.out.1.mono nr (HRW.out.trans (HBI.out.mono HRW.out.size)) nr (by omega)
          have c0:wr.cell? (ad g (go+i*2))=some (.int .i64 ((p.Y x).L i 0)):=hgc i hil 0 (by omega)
          have c1x:wr.cell? (ad g (go+i*2+1))=some (.int .i64 ((p.Y x).L i 1)):=hgc i hil 1 (by omega)
          clear hgc
          have hi0':(0:Int)<=(i:Int):=by omega
          have hin':(i:Int)<(((p.Y x).nl:Nat):Int):=by omega
          have HBJ:Hid (Below WR.heap.size WR (wr.alloc (.cells #[.int .i64 ((p.Y x).L i 0),.int .i64 ((p.Y x).L i 1)] 146))):=HBI.out.alloc HBI.out.size _
          by_cases he:(p.Y x).L i 0=(k:Int)
          ·
           have HLI:Hid ((Value.int .i64 ((p.Y x).L i 1))=.int .i64 (lieN (cat (p.Y x).nl (p.Y x).L (p.Y x).F) k (0+(i+1)))):=by rw[Hid,<-Nat.add_assoc,lieN_loyes hil he]
           have yy:((p.Y x).L i 0==(k:Int))=true:=by simpa using he
           clear he
           go_wp2_with fail
           go_roundw
           case rel=>exact⟨i+1,by omega,by go_num,HLI.out,HBJ⟩
           case measure=>simp[intOf];omega
          ·
           have HLI:Hid ((Value.int .i64 (lieN (cat (p.Y x).nl (p.Y x).L (p.Y x).F) k (0+i)))=.int .i64 (lieN (cat (p.Y x).nl (p.Y x).L (p.Y x).F) k (0+(i+1)))):=by rw[Hid,<-Nat.add_assoc,lieN_lono hil he]
           have yy:((p.Y x).L i 0==(k:Int))=false:=by simpa using he
           clear he
           go_wp2_with fail
           go_roundw
           case rel=>exact⟨i+1,by omega,by go_num,HLI.out,HBJ⟩
           case measure=>simp[intOf];omega
         ·
          obtain rfl:i=(p.Y x).nl:=by omega
          go_wp2_with fail
          go_roundw
          case rel=>exact⟨.inr (.inl ⟨by go_num,by simp⟩),HBI⟩
          case measure=>simp[intOf]
       ·
        go_wp2_with fail
        obtain⟨WI,hWI⟩:∃W,W=wr:=⟨wr,rfl⟩
        rw[<-hWI] at HBI
        rw[<-hWI]
        clear hWI
        go_loopw [15,133] (fun l c wi=>∃i:Nat,i<=(p.Y x).nf/\c=.int .i64 (i:Int)/\l=.int .i64 (lieN (cat (p.Y x).nl (p.Y x).L (p.Y x).F) k ((p.Y x).nl+i))/\Hid (Below WR.heap.size WR wi)) (fun _ c _=>(p.Y x).nf-(intOf c).toNat)
        case atStart=>exact⟨0,Nat.zero_le _,rfl,rfl,HBI⟩
        case round=>
         clear HBI
         obtain⟨i,hi,rfl,rfl,HBI⟩:=hrel
         by_cases hil:i<(p.Y x).nf
         ·
          obtain⟨g,go,rfl,_,hgl,hgc⟩:=HXL.out.2.mono nr (HRW.out.trans (HBI.out.mono HRW.out.size)) nr (by omega)
          have c0:wr.cell? (ad g (go+i*2))=some (.int .i64 ((p.Y x).F i 0)):=hgc i hil 0 (by omega)
          have c1x:wr.cell? (ad g (go+i*2+1))=some (.int .i64 ((p.Y x).F i 1)):=hgc i hil 1 (by omega)
          clear hgc
          have hi0':(0:Int)<=(i:Int):=by omega
          have hin':(i:Int)<(((p.Y x).nf:Nat):Int):=by omega
          have HBJ:Hid (Below WR.heap.size WR (wr.alloc (.cells #[.int .i64 ((p.Y x).F i 0),.int .i64 ((p.Y x).F i 1)] 146))):=HBI.out.alloc HBI.out.size _
          by_cases he:(p.Y x).F i 0=(k:Int)
          ·
           have HLI:Hid ((Value.int .i64 ((p.Y x).F i 1))=.int .i64 (lieN (cat (p.Y x).nl (p.Y x).L (p.Y x).F) k ((p.Y x).nl+(i+1)))):=by rw[Hid,<-Nat.add_assoc,lieN_hiyes he]
           have yy:((p.Y x).F i 0==(k:Int))=true:=by simpa using he
           clear he
           go_wp2_with fail
           go_roundw
           case rel=>exact⟨i+1,by omega,by go_num,HLI.out,HBJ⟩
           case measure=>simp[intOf];omega
          ·
           have HLI:Hid ((Value.int .i64 (lieN (cat (p.Y x).nl (p.Y x).L (p.Y x).F) k ((p.Y x).nl+i)))=.int .i64 (lieN (cat (p.Y x).nl (p.Y x).L (p.Y x).F) k ((p.Y x).nl+(i+1)))):=by rw[Hid,<-Nat.add_assoc,lieN_hino he]
           have yy:((p.Y x).F i 0==(k:Int))=false:=by simpa using he
           clear he
           go_wp2_with fail
           go_roundw
           case rel=>exact⟨i+1,by omega,by go_num,HLI.out,HBJ⟩
           case measure=>simp[intOf];omega
         ·
          obtain rfl:i=(p.Y x).nf:=by omega
          go_wp2_with fail
          go_roundw
          case rel=>exact⟨.inr (.inr ⟨by go_num,rfl⟩),HBI⟩
          case measure=>simp[intOf]
       ·
        go_wp2_with fail
        go_meet
        case rel=>exact⟨rfl,HBI⟩
     case rest=>
      obtain⟨rfl,HBW⟩:=hcut
      obtain⟨w5,hw5⟩:∃W,W=wc:=⟨wc,rfl⟩
      rw[<-hw5] at HBW
      rw[<-hw5]
      clear hw5
      have TW:Hid (Fr (fun b=>b=tq) W2 w5/\Box w5 tq 141 #[.slice a1 m1 c1,.slice a2 m2 c2,.slice va m vc]/\VOwn W2.heap.size 3 1 w5 (.slice va m vc) m (oneF D)):=⟨T1.out.1.1.trans (Fr.of_below HBW.out),T1.out.1.2.1.mono HBW.out nr,T1.out.1.2.2.mono nr HBW.out nr⟩
      clear T1 HBW HRW
      obtain⟨ly,HLY⟩:∃l,Hid (lieN (cat (p.Y x).nl (p.Y x).L (p.Y x).F) k ((p.Y x).nl+(p.Y x).nf)=l):=⟨_,rfl⟩
      rw[HLY.out]
      have HV:=(HS2.out w5 TW.out.1).1
      have p0:w5.cell? (ad pb (po+k*2))=some (.int .i64 (f.P k 0)):=by
       have hnpk:k<f.np:=by rw[H.out.2.2.2.2.2.2.2.1];exact hlt
       obtain⟨pb2,po2,hpa,_,_,hcp⟩:=H.out.2.1.p.mono nr HV.1 nr (by omega)
       cases hpa
       exact hcp k hnpk 0 (by omega)
      have hknp:(k:Int)<(f.np:Int):=by rw[H.out.2.2.2.2.2.2.2.1];exact hkn
      have dp:w5.cell? (ad q4 2)=some (.slice (some (ad pb po)) f.np pc):=HV.2.2.1.cell 2
      by_cases hl0:ly=0
      ·
       have HU:Hid (swB p f x k=false):=by rw[Hid,swB,HLY.out];simp[hl0]
       have zz:(ly==0)=true:=by simpa using hl0
       clear hl0 HV
       have HD2:Hid (m=selN (swB p f x) (k+1)/\D=selD (swB p f x) (k+1)):=⟨HD.out.1.trans (selN_no (q:=(swB p f x)) HU.out).symm,HD.out.2.trans (selD_no (q:=(swB p f x)) HU.out).symm⟩
       have HHD:Hid ((Value.int .i64 (hdF (swB p f x) (wnF p f) k))=.int .i64 (hdF (swB p f x) (wnF p f) (k+1))):=by rw[Hid,hdF_no HU.out]
       go_wp2_with fail
       go_roundw
       case rel=>exact⟨k+1,m,va,vc,D,by omega,by omega,by go_num,HHD.out,HD2,TW⟩
       case measure=>simp[intOf];omega
      have HLN:Hid (decide (lieN (cat (p.Y x).nl (p.Y x).L (p.Y x).F) k ((p.Y x).nl+(p.Y x).nf)≠0)=true):=by rw[Hid,HLY.out];simpa using hl0
      have zz:(ly==0)=false:=by simpa using hl0
      clear hl0
      by_cases hlp:ly=f.P k 0
      ·
       have HU:Hid (swB p f x k=false):=by rw[Hid,swB,HLY.out];simp[hlp]
       have zz2:(ly==f.P k 0)=true:=by simpa using hlp
       clear hlp HV
       have HD2:Hid (m=selN (swB p f x) (k+1)/\D=selD (swB p f x) (k+1)):=⟨HD.out.1.trans (selN_no (q:=(swB p f x)) HU.out).symm,HD.out.2.trans (selD_no (q:=(swB p f x)) HU.out).symm⟩
       have HHD:Hid ((Value.int .i64 (hdF (swB p f x) (wnF p f) k))=.int .i64 (hdF (swB p f x) (wnF p f) (k+1))):=by rw[Hid,hdF_no HU.out]
       go_wp2_with fail
       go_roundw
       case rel=>exact⟨k+1,m,va,vc,D,by omega,by omega,by go_num,HHD.out,HD2,TW⟩
       case measure=>simp[intOf];omega
      have HPL:Hid (decide (lieN (cat (p.Y x).nl (p.Y x).L (p.Y x).F) k ((p.Y x).nl+(p.Y x).nf)≠f.P k 0)=true):=by rw[Hid,HLY.out];simpa using hlp
      have zz2:(ly==f.P k 0)=false:=by simpa using hlp
      clear hlp
      have x0:w5.cell? (ad w.heap.size 0)=some (.int .i64 p.sec):=HV.2.1.cell 0
      have x1:w5.cell? (ad w.heap.size 1)=some (.slice wa p.nw wk):=HV.2.1.cell 1
      have x2:w5.cell? (ad w.heap.size 2)=some (.slice (some (ad yb yo)) p.ny yk):=HV.2.1.cell 2
      have x3:w5.cell? (ad w.heap.size 3)=some (.slice (some (ad bb bo)) p.nb bk):=HV.2.1.cell 3
      have x4:w5.cell? (ad w.heap.size 4)=some (.int .i64 p.hold):=HV.2.1.cell 4
      have y0:w5.cell? (ad q4 0)=some (.bool f.ok):=HV.2.2.1.cell 0
      have y1:w5.cell? (ad q4 1)=some (.slice (some (ad ob oo)) f.no oc):=HV.2.2.1.cell 1
      have y2:w5.cell? (ad q4 2)=some (.slice (some (ad pb po)) f.np pc):=HV.2.2.1.cell 2
      have y3:w5.cell? (ad q4 3)=some (.slice (some (ad fb fo)) f.nh hc):=HV.2.2.1.cell 3
      go_wp2_with fail
      clear x0 x1 x2 x3 x4 y0 y1 y2 y3 p0 dp
      refine(point51 p f wa (some (ad yb yo)) (some (ad bb bo)) (some (ad ob oo)) (some (ad pb po)) (some (ad fb fo)) wk yk bk oc pc hc k w5 H.out.2.2.1 H.out.2.2.2.1.2.2.1 H.out.2.2.2.2.2.2.2.2.2 H.out.2.2.2.2.1 hlt (H.out.1.mono nr HV.1 nr) (H.out.2.1.h.mono nr HV.1 nr)).mono ?_
      rintro e w7 ⟨va7,vc7,rfl,_,hb7⟩
      have T7:Hid (Fr (fun b=>b=tq) W2 w7/\Box w7 tq 141 #[.slice a1 m1 c1,.slice a2 m2 c2,.slice va m vc]/\VOwn W2.heap.size 3 1 w7 (.slice va m vc) m (oneF D)):=⟨TW.out.1.trans (Fr.of_below hb7),TW.out.2.1.mono hb7 nr,TW.out.2.2.mono nr hb7 nr⟩
      clear hb7 TW HV
      obtain⟨n7,HN7⟩:∃n,Hid (selN (fun i=>wantsB p f i k) p.ny=n):=⟨_,rfl⟩
      rw[HN7.out]
      by_cases h7:0<n7
      ·
       have HWN:Hid (wnF p f k=true):=by rw[Hid,wnF,HN7.out];simpa using h7
       have HU:Hid (swB p f x k=true):=by rw[Hid,swB,HLN.out,HPL.out,HWN.out];rfl
       have h7':(0:Int)<(n7:Int):=by omega
       have HD2:Hid (m+1=selN (swB p f x) (k+1)/\updI D m (k:Int)=selD (swB p f x) (k+1)):=⟨by rw[selN_yes (q:=(swB p f x)) HU.out,HD.out.1],by rw[selD_yes (q:=(swB p f x)) HU.out,HD.out.1,HD.out.2]⟩
       have hszr:W2.heap.size<=w7.heap.size:=T7.out.1.size
       have HW:Hid (VOwn W2.heap.size 3 1 w7 (.slice va m vc) m (oneF (updI D m (k:Int)))):=T7.out.2.2.congr fun i hi j _=>by simp[oneF,updI,hi]
       have hbx:Box (w7.alloc (.cells #[.int .i64 (k:Int)] 3)) w7.heap.size 3 #[.int .i64 (k:Int)]:=Box.new _ _ _
       have z0:w7.cell? (ad tq 2)=some (.slice va m vc):=T7.out.2.1.cell 2
       go_wp2_with(at_builtin;go_must (refine wpList_vapp _ rfl _ _ 22 rfl W2.heap.size 3 i0 _ 1 8 Tryz.underlying22 hi0 hz0 hs0' hb0 rfl (by decide) (.slice va m vc) m (oneF (updI D m (k:Int))) rfl (HW.out.alloc _) (fun _ _=>rfl) w7.heap.size 1 #[.int .i64 (k:Int)] rfl hbx (by simp[oneF,updI]) (by simp only[maxLen];omega) (by omega) (by simp;omega) (Halt.mk ?_)))
       intro v2 w6 o2 g2
       obtain⟨va2,vc2,rfl⟩:=o2.val
       have M6:Hid (Fr (fun b=>b=tq) W2 w6/\Box w6 tq 141 #[.slice a1 m1 c1,.slice a2 m2 c2,.slice va m vc]):=app_fr T7.out.1 T7.out.2.1 HW.out HT2.out g2
       have M7:Hid (Fr (fun b=>b=tq) W2 (w6.setCell (ad tq 2) (.slice va2 (m+1) vc2))/\Box (w6.setCell (ad tq 2) (.slice va2 (m+1) vc2)) tq 141 #[.slice a1 m1 c1,.slice a2 m2 c2,.slice va2 (m+1) vc2]/\VOwn W2.heap.size 3 1 (w6.setCell (ad tq 2) (.slice va2 (m+1) vc2)) (.slice va2 (m+1) vc2) (m+1) (oneF (updI D m (k:Int)))):=⟨M6.out.1.cells rfl _ _,M6.out.2.set 2 _,o2.set M6.out.2 (by decide) _ _⟩
       have b0':w6.cell? (ad tq 2)=some (.slice va m vc):=M6.out.2.cell 2
       have f0':=M6.out.2.free 2
       clear o2 g2 HW hbx z0
       have HHD:Hid ((Value.int .i64 5)=.int .i64 (hdF (swB p f x) (wnF p f) (k+1))):=by rw[Hid,hdF_yes HU.out HWN.out]
       go_wp2_with fail
       go_roundw
       case rel=>exact⟨k+1,m+1,va2,vc2,_,by omega,by omega,by go_num,HHD.out,HD2,M7⟩
       case measure=>simp[intOf];omega
      have HWN:Hid (wnF p f k=false):=by rw[Hid,wnF,HN7.out];simpa using h7
      have h7':¬((0:Int)<(n7:Int)):=by omega
      have HV7:=(HS2.out w7 T7.out.1).1
      obtain⟨o,hWo,hoo⟩:=H.out.2.2.2.2.2.2.1 k hlt
      have HWO:Hid ((p.W k).toNat=o):=by rw[Hid,hWo];rfl
      obtain⟨sb,so,rfl,_,hsl,hcs⟩:=H.out.1.sw (by omega)
      have s0:w7.cell? (ad sb (so+k))=some (.int .i64 (o:Int)):=cell_keep HV7.1 hsl (by have :=hcs k hlt 0 (by omega);rw[Nat.mul_one,Nat.add_zero,oneF,hWo] at this;exact this)
      have o0:w7.cell? (ad ob (oo+o))=some (.bool (f.O o)):=by
       obtain⟨ob2,oo2,hoa,_,_,hco⟩:=H.out.2.1.o.mono nr HV7.1 nr (by omega)
       cases hoa
       have :=hco o hoo 0 (by omega)
       rwa [Nat.mul_one] at this
      have d1:w7.cell? (ad q4 1)=some (.slice (some (ad ob oo)) f.no oc):=HV7.2.2.1.cell 1
      have d2:w7.cell? (ad w.heap.size 1)=some (.slice (some (ad sb so)) p.nw wk):=HV7.2.1.cell 1
      have ho0:(0:Int)<=(o:Int):=by omega
      have hon:(o:Int)<(f.no:Int):=by omega
      have TD:Hid (Fr (fun b=>b=tq) W2 w7.drew/\Box w7.drew tq 141 #[.slice a1 m1 c1,.slice a2 m2 c2,.slice va m vc]/\VOwn W2.heap.size 3 1 w7.drew (.slice va m vc) m (oneF D)):=⟨T7.out.1.drew,T7.out.2.1.drew,T7.out.2.2.keep nr fun _ _=>rfl⟩
      clear hcs hWo HV7 T7
      go_wp2_with fail
      cases hO:f.O o with
      |true=>
       rw[hO] at o0
       refine wp_region_held_drew (S:=(fun wx:World=>wx.cell? (ad q4 1)=some (.slice (some (ad ob oo)) f.no oc)/\wx.cell? (ad w.heap.size 1)=some (.slice (some (ad sb so)) p.nw wk)/\wx.cell? (ad sb (so+k))=some (.int .i64 (o:Int))/\wx.cell? (ad ob (oo+o))=some (.bool true))) (by kernel_rfl) ?_ (fun hHeld=>?_)
       ·
        exact⟨d1,d2,s0,o0⟩
       refine tk 0 ?_
       refine tk 1 ?_
       refine tk 2 ?_
       refine tk 3 ?_
       refine tk 4 ?_
       refine tk 5 ?_
       refine tk 6 ?_
       refine tk 7 ?_
       refine tk 8 ?_
       refine wpAnyH_done (by kernel_rfl) ?_ _
       generalize w7.drew=WD at TD⊢
       clear d1 d2 s0 o0
       have HU:Hid (swB p f x k=true):=by rw[Hid,swB,HLN.out,HPL.out,HWN.out,HWO.out,hO];rfl
       have HD2:Hid (m+1=selN (swB p f x) (k+1)/\updI D m (k:Int)=selD (swB p f x) (k+1)):=⟨by rw[selN_yes (q:=(swB p f x)) HU.out,HD.out.1],by rw[selD_yes (q:=(swB p f x)) HU.out,HD.out.1,HD.out.2]⟩
       have hszr:W2.heap.size<=WD.heap.size:=TD.out.1.size
       have HW:Hid (VOwn W2.heap.size 3 1 WD (.slice va m vc) m (oneF (updI D m (k:Int)))):=TD.out.2.2.congr fun i hi j _=>by simp[oneF,updI,hi]
       have hbx:Box (WD.alloc (.cells #[.int .i64 (k:Int)] 3)) WD.heap.size 3 #[.int .i64 (k:Int)]:=Box.new _ _ _
       have z0:WD.cell? (ad tq 2)=some (.slice va m vc):=TD.out.2.1.cell 2
       go_wp2_with(at_builtin;go_must (refine wpList_vapp _ rfl _ _ 22 rfl W2.heap.size 3 i0 _ 1 8 Tryz.underlying22 hi0 hz0 hs0' hb0 rfl (by decide) (.slice va m vc) m (oneF (updI D m (k:Int))) rfl (HW.out.alloc _) (fun _ _=>rfl) WD.heap.size 1 #[.int .i64 (k:Int)] rfl hbx (by simp[oneF,updI]) (by simp only[maxLen];omega) (by omega) (by simp;omega) (Halt.mk ?_)))
       intro v2 w6 o2 g2
       obtain⟨va2,vc2,rfl⟩:=o2.val
       have M6:Hid (Fr (fun b=>b=tq) W2 w6/\Box w6 tq 141 #[.slice a1 m1 c1,.slice a2 m2 c2,.slice va m vc]):=app_fr TD.out.1 TD.out.2.1 HW.out HT2.out g2
       have M7:Hid (Fr (fun b=>b=tq) W2 (w6.setCell (ad tq 2) (.slice va2 (m+1) vc2))/\Box (w6.setCell (ad tq 2) (.slice va2 (m+1) vc2)) tq 141 #[.slice a1 m1 c1,.slice a2 m2 c2,.slice va2 (m+1) vc2]/\VOwn W2.heap.size 3 1 (w6.setCell (ad tq 2) (.slice va2 (m+1) vc2)) (.slice va2 (m+1) vc2) (m+1) (oneF (updI D m (k:Int)))):=⟨M6.out.1.cells rfl _ _,M6.out.2.set 2 _,o2.set M6.out.2 (by decide) _ _⟩
       have b0':w6.cell? (ad tq 2)=some (.slice va m vc):=M6.out.2.cell 2
       have f0':=M6.out.2.free 2
       clear o2 g2 HW hbx z0
       by_cases hz:hdF (swB p f x) (wnF p f) k=0
       ·
        have HHD:Hid ((Value.int .i64 6)=.int .i64 (hdF (swB p f x) (wnF p f) (k+1))):=by rw[Hid,hdF_six HU.out HWN.out hz]
        have yy:(hdF (swB p f x) (wnF p f) k==0)=true:=by simpa using hz
        clear hz
        go_wp2_with fail
        go_roundw
        case rel=>exact⟨k+1,m+1,va2,vc2,_,by omega,by omega,by go_num,HHD.out,HD2,M7⟩
        case measure=>simp[intOf];omega
       ·
        have HHD:Hid ((Value.int .i64 (hdF (swB p f x) (wnF p f) k))=.int .i64 (hdF (swB p f x) (wnF p f) (k+1))):=by rw[Hid,hdF_same HU.out HWN.out hz]
        have yy:(hdF (swB p f x) (wnF p f) k==0)=false:=by simpa using hz
        clear hz
        go_wp2_with fail
        go_roundw
        case rel=>exact⟨k+1,m+1,va2,vc2,_,by omega,by omega,by go_num,HHD.out,HD2,M7⟩
        case measure=>simp[intOf];omega
      |false=>
       rw[hO] at o0
       refine wp_region_held_drew (S:=(fun wx:World=>wx.cell? (ad q4 1)=some (.slice (some (ad ob oo)) f.no oc)/\wx.cell? (ad w.heap.size 1)=some (.slice (some (ad sb so)) p.nw wk)/\wx.cell? (ad sb (so+k))=some (.int .i64 (o:Int))/\wx.cell? (ad ob (oo+o))=some (.bool false))) (by kernel_rfl) ?_ (fun hHeld=>?_)
       ·
        exact⟨d1,d2,s0,o0⟩
       refine tk 0 ?_
       refine tk 1 ?_
       refine tk 2 ?_
       refine tk 3 ?_
       refine tk 4 ?_
       refine tk 5 ?_
       refine tk 6 ?_
       refine tk 7 ?_
       refine tk 8 ?_
       refine wpAnyH_done (by kernel_rfl) ?_ _
       generalize w7.drew=WD at TD⊢
       clear d1 d2 s0 o0
       have HU:Hid (swB p f x k=false):=by rw[Hid,swB,HLN.out,HPL.out,HWN.out,HWO.out,hO];rfl
       have HD2:Hid (m=selN (swB p f x) (k+1)/\D=selD (swB p f x) (k+1)):=⟨HD.out.1.trans (selN_no (q:=(swB p f x)) HU.out).symm,HD.out.2.trans (selD_no (q:=(swB p f x)) HU.out).symm⟩
       have HHD:Hid ((Value.int .i64 (hdF (swB p f x) (wnF p f) k))=.int .i64 (hdF (swB p f x) (wnF p f) (k+1))):=by rw[Hid,hdF_no HU.out]
       go_wp2_with fail
       go_roundw
       case rel=>exact⟨k+1,m,va,vc,D,by omega,by omega,by go_num,HHD.out,HD2,TD⟩
       case measure=>simp[intOf];omega
    ·
     obtain rfl:k=p.nw:=by omega
     have hge:¬((p.nw:Int)<(p.nw:Int)):=by omega
     have HVE:=HS2.out wr M.out.1
     have t0:wr.cell? (ad tq 0)=some (.slice a1 m1 c1):=M.out.2.1.cell 0
     have t1:wr.cell? (ad tq 1)=some (.slice a2 m2 c2):=M.out.2.1.cell 1
     have t2:wr.cell? (ad tq 2)=some (.slice va m vc):=M.out.2.1.cell 2
     have e0:wr.cell? (ad q6 0)=some (.slice none 0 0):=HVE.1.2.2.2.1.cell 0
     have e1:wr.cell? (ad q6 1)=some (.slice none 0 0):=HVE.1.2.2.2.1.cell 1
     have e2:wr.cell? (ad q6 2)=some (.slice none 0 0):=HVE.1.2.2.2.1.cell 2
     obtain⟨g0,g1,g2⟩:=HVE.1.2.2.2.1.f3
     have HF:Hid (Below w.heap.size w (((wr.setCell (ad q6 0) (.slice a1 m1 c1)).setCell (ad q6 1) (.slice a2 m2 c2)).setCell (ad q6 2) (.slice va m vc))/\Box (((wr.setCell (ad q6 0) (.slice a1 m1 c1)).setCell (ad q6 1) (.slice a2 m2 c2)).setCell (ad q6 2) (.slice va m vc)) q6 141 #[.slice a1 m1 c1,.slice a2 m2 c2,.slice va m vc]/\VOwn w.heap.size 3 1 (((wr.setCell (ad q6 0) (.slice a1 m1 c1)).setCell (ad q6 1) (.slice a2 m2 c2)).setCell (ad q6 2) (.slice va m vc)) (.slice a1 m1 c1) m1 (oneF D1)/\VOwn w.heap.size 3 1 (((wr.setCell (ad q6 0) (.slice a1 m1 c1)).setCell (ad q6 1) (.slice a2 m2 c2)).setCell (ad q6 2) (.slice va m vc)) (.slice a2 m2 c2) m2 (oneF D2)/\VOwn w.heap.size 3 1 (((wr.setCell (ad q6 0) (.slice a1 m1 c1)).setCell (ad q6 1) (.slice a2 m2 c2)).setCell (ad q6 2) (.slice va m vc)) (.slice va m vc) m (oneF D)):=by
      have k0:=HVE.1.2.2.2.1
      have k1:=k0.set 0 (.slice a1 m1 c1)
      have k2:=k1.set 1 (.slice a2 m2 c2)
      have k3:=k2.set 2 (.slice va m vc)
      have hp:w.heap.size<=q6:=S1.out.2.2.1
      have z0:w.heap.size<=V0.heap.size:=S1.out.1.1.size
      have z1:V0.heap.size<=W1.heap.size:=M1.out.1.size
      have z2:W1.heap.size<=W2.heap.size:=M2.out.1.size
      exact⟨((HVE.1.1.setCell hp _).setCell hp _).setCell hp _,k3,(((HVE.2.1.set k0 (by decide) _ _).set k1 (by decide) _ _).set k2 (by decide) _ _).keep z0 fun _ _=>rfl,(((HVE.2.2.set k0 (by decide) _ _).set k1 (by decide) _ _).set k2 (by decide) _ _).keep (Nat.le_trans z0 z1) fun _ _=>rfl,(((M.out.2.2.set k0 (by decide) _ _).set k1 (by decide) _ _).set k2 (by decide) _ _).keep (Nat.le_trans z0 (Nat.le_trans z1 z2)) fun _ _=>rfl⟩
     clear HVE
     have HEQ:Hid (∀c:Int,(cd2 cd m2=0->c=hdF (swB p f x) (wnF p f) p.nw)->(cd2 cd m2≠0->c=cd2 cd m2)->c=cdE p f x):=fun c h1 h2=>by
      rw[cdE,<-HD1.out.1,<-HD2'.out.1,<-HCD1.out]
      by_cases hz:cd2 cd m2=0
      ·
       rw[if_pos hz,h1 hz]
      ·
       rw[if_neg hz,h2 hz]
     have HEND:Hid (∀c:Int,c=cdE p f x->∀W,(Below w.heap.size w W/\Box W q6 141 #[.slice a1 m1 c1,.slice a2 m2 c2,.slice va m vc]/\VOwn w.heap.size 3 1 W (.slice a1 m1 c1) m1 (oneF D1)/\VOwn w.heap.size 3 1 W (.slice a2 m2 c2) m2 (oneF D2)/\VOwn w.heap.size 3 1 W (.slice va m vc) m (oneF D))->SpR w p f x (.returned (.tuple #[.agg #[.slice a1 m1 c1,.slice a2 m2 c2,.slice va m vc],.int .i64 c])) W):=fun c hc W hW=>by
      refine⟨a1,c1,a2,c2,va,vc,by rw[hc,<-HD1.out.1,<-HD2'.out.1,<-HD.out.1],?_,?_,?_,hW.1⟩
      ·
       rw[<-HD1.out.1,<-HD1.out.2]
       exact hW.2.2.1
      ·
       rw[<-HD2'.out.1,<-HD2'.out.2]
       exact hW.2.2.2.1
      ·
       rw[<-HD.out.1,<-HD.out.2]
       exact hW.2.2.2.2
     by_cases hz:c9=0
     ·
      have HCE:Hid (hdF (swB p f x) (wnF p f) p.nw=cdE p f x):=HEQ.out _ (fun _=>rfl) (fun h=>absurd (HC9.out.trans hz) h)
      have yy:(c9==0)=true:=by simpa using hz
      clear hz
      go_wp2_with fail
      generalize (((wr.setCell (ad q6 0) (.slice a1 m1 c1)).setCell (ad q6 1) (.slice a2 m2 c2)).setCell (ad q6 2) (.slice va m vc))=W9 at HF⊢
      clear t0 t1 t2 e0 e1 e2 g0 g1 g2
      have d0:W9.cell? (ad q6 0)=some (.slice a1 m1 c1):=HF.out.2.1.cell 0
      have d1:W9.cell? (ad q6 1)=some (.slice a2 m2 c2):=HF.out.2.1.cell 1
      have d2:W9.cell? (ad q6 2)=some (.slice va m vc):=HF.out.2.1.cell 2
      exact bodyPost_ret (v:=.tuple #[.agg #[.slice a1 m1 c1,.slice a2 m2 c2,.slice va m vc],.int .i64 (hdF (swB p f x) (wnF p f) p.nw)]) (by simp[results,Tryz.results88,go_sem,d0,d1,d2]) rfl (HEND.out _ HCE.out W9 HF.out)
     ·
      have HCE:Hid (c9=cdE p f x):=HEQ.out _ (fun h=>absurd (HC9.out.symm.trans h) hz) (fun _=>HC9.out.symm)
      have yy:(c9==0)=false:=by simpa using hz
      clear hz
      go_wp2_with fail
      generalize (((wr.setCell (ad q6 0) (.slice a1 m1 c1)).setCell (ad q6 1) (.slice a2 m2 c2)).setCell (ad q6 2) (.slice va m vc))=W9 at HF⊢
      clear t0 t1 t2 e0 e1 e2 g0 g1 g2
      have d0:W9.cell? (ad q6 0)=some (.slice a1 m1 c1):=HF.out.2.1.cell 0
      have d1:W9.cell? (ad q6 1)=some (.slice a2 m2 c2):=HF.out.2.1.cell 1
      have d2:W9.cell? (ad q6 2)=some (.slice va m vc):=HF.out.2.1.cell 2
      exact bodyPost_ret (v:=.tuple #[.agg #[.slice a1 m1 c1,.slice a2 m2 c2,.slice va m vc],.int .i64 c9]) (by simp[results,Tryz.results88,go_sem,d0,d1,d2]) rfl (HEND.out _ HCE.out W9 HF.out)
end Go.Proofs.YtkeilejbelblcaaGreatDoor
