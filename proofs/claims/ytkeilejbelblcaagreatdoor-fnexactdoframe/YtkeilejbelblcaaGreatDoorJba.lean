import Derived.Test.YtkeilejbelblcaaGreatDoorJaz
import Derived.Test.YtkeilejbelblcaaGreatDoorK7
import Derived.Test.YtkeilejbelblcaaGreatDoorJar
import Derived.Test.YtkeilejbelblcaaGreatDoorJao
import Derived.Test.YtkeilejbelblcaaGreatDoorGMoSm
import Derived.Test.YtkeilejbelblcaaGreatDoorGSaH5
namespace Go.Proofs.YtkeilejbelblcaaGreatDoor
open Go.RowKit Go.Lib
def wantsB (p:Pl) (f:Fm) (i x:Nat):Bool:=decide ((f.Y i).st≠0)&&(anyB (fun j=>decide ((p.Y i).F j 0=(x:Int))) (p.Y i).nf||(anyB (fun j=>decide ((p.Y i).L j 0=(x:Int))) (p.Y i).nl&&holdsB p f i (p.W x)))
def WtR (w:World) (p:Pl) (f:Fm) (i x:Nat) (e:Ending) (w':World):Prop:=
 ∃r:Int,e=.returned (.int .i64 r)/\decide (0<r)=wantsB p f i x/\Below w.heap.size w w'
theorem any_and (q:Nat->Bool) (c:Bool) {n:Nat}(h:∀j,j<n->(q j&&c)=false):(anyB q n&&c)=false:=by
 cases c with
 |false=>simp
 |true=>rw[anyB_no fun j hj=>by simpa using h j hj];rfl
set_option maxRecDepth 100000 in
set_option maxHeartbeats 16000000 in
theorem wants87 (p:Pl) (f:Fm) (wa ya ba oa pa ha:Option Addr) (wc yc bc oc pc hc:Nat) (i x:Nat) (w:World) (hs:p.small) (hnh:f.nh<=1048576) (hi:i<p.ny) (hif:i<f.nh) (hx:x<p.nw) (hL:∀j,j<(p.Y i).nl->0<(p.Y i).L j 1) (hF:∀j,j<(p.Y i).nf->0<(p.Y i).F j 1) (h:PlIn 0 w p wa ya ba) (hh:HsAt 0 w ha f.nh f.Y):
  Calls Tryz.prog 89 #[.agg #[.int .i64 p.sec,.slice wa p.nw wc,.slice ya p.ny yc,.slice ba p.nb bc,.int .i64 p.hold],.agg #[.bool f.ok,.slice oa f.no oc,.slice pa f.np pc,.slice ha f.nh hc],.int .i64 (i:Int),.int .i64 (x:Int)] w fun e w'=>WtR w p f i x e w':=by
 have hny:=hs.2.1
 have hnw:p.nw<=1048576:=hs.1
 have hsm:=hs.2.2.1 i hi
 obtain⟨yb,yo,rfl,_,hyl,hcy⟩:=h.wy (by omega)
 obtain⟨sa,sc,la,lc,fa,fc,oo,oc2,ma,mc,_,x1,x2,_,_,hy⟩:=hcy i hi
 obtain⟨fb,fo,rfl,_,hfl,hcf⟩:=hh (by omega)
 obtain⟨ra,rc,y0,_,_,_,_,_⟩:=hcf i hif
 obtain⟨sb,so,rfl,_,hsl,hcs⟩:=h.sw (by omega)
 have s0:w.cell? (ad sb (so+x))=some (.int .i64 (p.W x)):=by have :=hcs x hx 0 (by omega);rwa [Nat.mul_one] at this
 have HSW:Hid (sb<w.heap.size/\w.cell? (ad sb (so+x))=some (.int .i64 (p.W x))):=⟨hsl,s0⟩
 have H:Hid (p.small/\f.nh<=1048576/\PlIn 0 w p (some (ad sb so)) (some (ad yb yo)) ba/\HsAt 0 w (some (ad fb fo)) f.nh f.Y):=⟨hs,hnh,h,hh⟩
 have HL:Hid (VsAt 2 0 w la (p.Y i).nl (intF (p.Y i).L)):=hy.l
 have HFl:Hid (VsAt 2 0 w fa (p.Y i).nf (intF (p.Y i).F)):=hy.f
 have HL1:Hid (∀j,j<(p.Y i).nl->0<(p.Y i).L j 1):=hL
 have HF1:Hid (∀j,j<(p.Y i).nf->0<(p.Y i).F j 1):=hF
 have hnl:(p.Y i).nl<=1048576:=by have :=hsm.2.1;omega
 have hnf:(p.Y i).nf<=1048576:=by have :=hsm.2.2.1;omega
 have HX1:Hid (yb<w.heap.size/\w.cell? (ad yb (yo+i*5+1))=some (.slice la (p.Y i).nl lc)):=⟨hyl,x1⟩
 clear hcy hy hcf hcs s0 hsm h hh hL hF hs x1
 have hi0:(0:Int)<=(i:Int):=by omega
 have hin:(i:Int)<(p.ny:Int):=by omega
 have hin2:(i:Int)<(f.nh:Int):=by omega
 have hx0:(0:Int)<=(x:Int):=by omega
 have hxn:(x:Int)<(p.nw:Int):=by omega
 have S0:Hid (Below w.heap.size w ((w.alloc (.cells (vPl p (some (ad sb so)) wc (some (ad yb yo)) yc ba bc) 37)).alloc (.cells (vFr f oa oc pa pc (some (ad fb fo)) hc) 42))/\Box ((w.alloc (.cells (vPl p (some (ad sb so)) wc (some (ad yb yo)) yc ba bc) 37)).alloc (.cells (vFr f oa oc pa pc (some (ad fb fo)) hc) 42)) w.heap.size 37 (vPl p (some (ad sb so)) wc (some (ad yb yo)) yc ba bc)/\Box ((w.alloc (.cells (vPl p (some (ad sb so)) wc (some (ad yb yo)) yc ba bc) 37)).alloc (.cells (vFr f oa oc pa pc (some (ad fb fo)) hc) 42)) (w.heap.size+1) 42 (vFr f oa oc pa pc (some (ad fb fo)) hc)):=⟨bel2 _ _ _,(Box.new _ _ _).alloc _,by have :=Box.new (w.alloc (.cells (vPl p (some (ad sb so)) wc (some (ad yb yo)) yc ba bc) 37)) 42 (vFr f oa oc pa pc (some (ad fb fo)) hc);simpa using this⟩
 by_cases h0:(f.Y i).st=0
 ·
  have HE:Hid (WtR w p f i x (.returned (.int .i64 0)) ((w.alloc (.cells (vPl p (some (ad sb so)) wc (some (ad yb yo)) yc ba bc) 37)).alloc (.cells (vFr f oa oc pa pc (some (ad fb fo)) hc) 42))):=⟨_,rfl,by simp[wantsB,h0],S0.out.1⟩
  have zz:((f.Y i).st==0)=true:=by simpa using h0
  clear h0
  go_enter Tryz.func89,Tryz.ntmps89
  go_wp2_with fail
  go_ret
  exact HE.out
 have HWT:Hid (wantsB p f i x=(anyB (fun j=>decide ((p.Y i).F j 0=(x:Int))) (p.Y i).nf||(anyB (fun j=>decide ((p.Y i).L j 0=(x:Int))) (p.Y i).nl&&holdsB p f i (p.W x)))):=by simp[Hid,wantsB,h0]
 have zz:((f.Y i).st==0)=false:=by simpa using h0
 clear h0
 go_enter Tryz.func89,Tryz.ntmps89
 go_wp2_with fail
 clear zz y0 x2
 go_loopw [27] (fun c wr=>∃k:Nat,k<=(p.Y i).nf/\c=.int .i64 k/\Hid (∀j,j<k->decide ((p.Y i).F j 0=(x:Int))=false)/\Hid (Below w.heap.size w wr/\Box wr w.heap.size 37 (vPl p (some (ad sb so)) wc (some (ad yb yo)) yc ba bc)/\Box wr (w.heap.size+1) 42 (vFr f oa oc pa pc (some (ad fb fo)) hc))) (fun c _=>(p.Y i).nf-(intOf c).toNat)
 case atStart=>exact⟨0,Nat.zero_le _,rfl,fun j hj=>absurd hj (Nat.not_lt_zero _),S0⟩
 case round=>
  clear S0
  obtain⟨k,hk,rfl,HQ,S1⟩:=hrel
  by_cases hlt:k<(p.Y i).nf
  ·
   obtain⟨b,off,rfl,_,hb,hc⟩:=HFl.out.mono nr S1.out.1 nr (by omega)
   have c0:wr.cell? (ad b (off+k*2))=some (.int .i64 ((p.Y i).F k 0)):=hc k hlt 0 (by omega)
   have c1:wr.cell? (ad b (off+k*2+1))=some (.int .i64 ((p.Y i).F k 1)):=hc k hlt 1 (by omega)
   have hk0:(0:Int)<=(k:Int):=by omega
   have hkn:(k:Int)<((p.Y i).nf:Int):=by omega
   clear hc
   have S2:Hid (Below w.heap.size w (wr.alloc (.cells #[.int .i64 ((p.Y i).F k 0),.int .i64 ((p.Y i).F k 1)] 146))/\Box (wr.alloc (.cells #[.int .i64 ((p.Y i).F k 0),.int .i64 ((p.Y i).F k 1)] 146)) w.heap.size 37 (vPl p (some (ad sb so)) wc (some (ad yb yo)) yc ba bc)/\Box (wr.alloc (.cells #[.int .i64 ((p.Y i).F k 0),.int .i64 ((p.Y i).F k 1)] 146)) (w.heap.size+1) 42 (vFr f oa oc pa pc (some (ad fb fo)) hc)):=⟨S1.out.1.alloc S1.out.1.size _,S1.out.2.1.alloc _,S1.out.2.2.alloc _⟩
   by_cases hB:(p.Y i).F k 0=(x:Int)
   ·
    have HT:Hid (anyB (fun j=>decide ((p.Y i).F j 0=(x:Int))) (p.Y i).nf=true):=anyB_yes hlt (by simpa using hB)
    have HE:Hid (WtR w p f i x (.returned (.int .i64 ((p.Y i).F k 1))) (wr.alloc (.cells #[.int .i64 ((p.Y i).F k 0),.int .i64 ((p.Y i).F k 1)] 146))):=⟨_,rfl,by rw[HWT.out,HT.out];simpa using (HF1.out k hlt),S2.out.1⟩
    have zz:((p.Y i).F k 0==(x:Int))=true:=by simpa using hB
    clear hB HT
    go_wp2_with fail
    go_ret
    exact HE.out
   ·
    have HQ2:Hid (∀j,j<k+1->decide ((p.Y i).F j 0=(x:Int))=false):=fun j hj=>by
     by_cases c:j=k
     ·
      subst c
      simpa using hB
     ·
      exact HQ.out j (by omega)
    have zz:((p.Y i).F k 0==(x:Int))=false:=by simpa using hB
    clear hB
    go_wp2_with fail
    go_roundw
    case rel=>exact⟨k+1,by omega,by go_num,HQ2,S2⟩
    case measure=>simp[intOf];omega
  ·
   have HF0:Hid (anyB (fun j=>decide ((p.Y i).F j 0=(x:Int))) (p.Y i).nf=false):=anyB_no fun j hj=>HQ.out j (by omega)
   have hge:¬((k:Int)<((p.Y i).nf:Int)):=by omega
   have a2:=S1.out.2.1.cel 2
   have x1:wr.cell? (ad yb (yo+i*5+1))=some (.slice la (p.Y i).nl lc):=(S1.out.1.cell (p:=(ad yb (yo+i*5+1))) HX1.out.1).trans HX1.out.2
   go_wp2_with fail
   clear a2 x1 hge HQ hk
   obtain⟨WR,hWR⟩:∃W,W=wr:=⟨wr,rfl⟩
   rw[<-hWR] at S1
   rw[<-hWR]
   clear hWR
   go_loopw [45] (fun c wr=>∃k:Nat,k<=(p.Y i).nl/\c=.int .i64 k/\Hid (∀j,j<k->(decide ((p.Y i).L j 0=(x:Int))&&holdsB p f i (p.W x))=false)/\Hid (Below w.heap.size w wr/\Box wr w.heap.size 37 (vPl p (some (ad sb so)) wc (some (ad yb yo)) yc ba bc)/\Box wr (w.heap.size+1) 42 (vFr f oa oc pa pc (some (ad fb fo)) hc))) (fun c _=>(p.Y i).nl-(intOf c).toNat)
   case atStart=>exact⟨0,Nat.zero_le _,rfl,fun j hj=>absurd hj (Nat.not_lt_zero _),S1⟩
   case round=>
    clear S1
    obtain⟨k,hk,rfl,HQ,S1⟩:=hrel
    by_cases hlt:k<(p.Y i).nl
    ·
     obtain⟨b,off,rfl,_,hb,hc⟩:=HL.out.mono nr S1.out.1 nr (by omega)
     have c0:wr.cell? (ad b (off+k*2))=some (.int .i64 ((p.Y i).L k 0)):=hc k hlt 0 (by omega)
     have c1:wr.cell? (ad b (off+k*2+1))=some (.int .i64 ((p.Y i).L k 1)):=hc k hlt 1 (by omega)
     have hk0:(0:Int)<=(k:Int):=by omega
     have hkn:(k:Int)<((p.Y i).nl:Int):=by omega
     clear hc
     have TV:Hid ((Below w.heap.size w (wr.alloc (.cells #[.int .i64 ((p.Y i).L k 0),.int .i64 ((p.Y i).L k 1)] 146))/\Box (wr.alloc (.cells #[.int .i64 ((p.Y i).L k 0),.int .i64 ((p.Y i).L k 1)] 146)) w.heap.size 37 (vPl p (some (ad sb so)) wc (some (ad yb yo)) yc ba bc)/\Box (wr.alloc (.cells #[.int .i64 ((p.Y i).L k 0),.int .i64 ((p.Y i).L k 1)] 146)) (w.heap.size+1) 42 (vFr f oa oc pa pc (some (ad fb fo)) hc))/\Box (wr.alloc (.cells #[.int .i64 ((p.Y i).L k 0),.int .i64 ((p.Y i).L k 1)] 146)) wr.heap.size 146 #[.int .i64 ((p.Y i).L k 0),.int .i64 ((p.Y i).L k 1)]):=⟨⟨S1.out.1.alloc S1.out.1.size _,S1.out.2.1.alloc _,S1.out.2.2.alloc _⟩,Box.new _ _ _⟩
     clear S1
     go_wp2_with fail
     clear c0 c1
     generalize wr.alloc (.cells #[.int .i64 ((p.Y i).L k 0),.int .i64 ((p.Y i).L k 1)] 146)=V at TV⊢
     generalize wr.heap.size=tq at TV⊢
     have TD:Hid ((Below w.heap.size w V.drew/\Box V.drew w.heap.size 37 (vPl p (some (ad sb so)) wc (some (ad yb yo)) yc ba bc)/\Box V.drew (w.heap.size+1) 42 (vFr f oa oc pa pc (some (ad fb fo)) hc))/\Box V.drew tq 146 #[.int .i64 ((p.Y i).L k 0),.int .i64 ((p.Y i).L k 1)]):=⟨⟨TV.out.1.1.drew,TV.out.1.2.1.drew,TV.out.1.2.2.drew⟩,TV.out.2.drew⟩
     by_cases hB:(p.Y i).L k 0=(x:Int)
     ·
      have HB0:Hid (decide ((p.Y i).L k 0=(x:Int))=true):=by simpa [Hid] using hB
      have zz:((p.Y i).L k 0==(x:Int))=true:=by simpa using hB
      clear hB
      obtain⟨u,HU⟩:∃u,Hid (holdsB p f i (p.W x)=u):=⟨_,rfl⟩
      cases u with
      |true=>
       refine wp_region_held_drew (S:=(fun wx:World=>wx.cell? (ad tq 0)=some (.int .i64 ((p.Y i).L k 0))/\wx.cell? (ad w.heap.size 0)=some (.int .i64 p.sec)/\wx.cell? (ad w.heap.size 1)=some (.slice (some (ad sb so)) p.nw wc)/\wx.cell? (ad w.heap.size 2)=some (.slice (some (ad yb yo)) p.ny yc)/\wx.cell? (ad w.heap.size 3)=some (.slice ba p.nb bc)/\wx.cell? (ad w.heap.size 4)=some (.int .i64 p.hold)/\wx.cell? (ad ((w.heap.size+1)) 0)=some (.bool f.ok)/\wx.cell? (ad ((w.heap.size+1)) 1)=some (.slice oa f.no oc)/\wx.cell? (ad ((w.heap.size+1)) 2)=some (.slice pa f.np pc)/\wx.cell? (ad ((w.heap.size+1)) 3)=some (.slice (some (ad fb fo)) f.nh hc)/\wx.cell? (ad sb (so+x))=some (.int .i64 (p.W x)))) (by kernel_rfl) ?_ (fun hHeld=>?_)
       ·
        exact⟨TV.out.2.cell 0,TV.out.1.2.1.cell 0,TV.out.1.2.1.cell 1,TV.out.1.2.1.cell 2,TV.out.1.2.1.cell 3,TV.out.1.2.1.cell 4,TV.out.1.2.2.cell 0,TV.out.1.2.2.cell 1,TV.out.1.2.2.cell 2,TV.out.1.2.2.cell 3,(TV.out.1.1.cell (p:=(ad sb (so+x))) HSW.out.1).trans HSW.out.2⟩
       refine tk 0 ?_
       refine tk 1 ?_
       refine tk 2 ?_
       refine tk 3 ?_
       refine tk 4 ?_
       refine tk 5 ?_
       refine tk 6 ?_
       refine tk 7 ?_
       refine tk 8 ?_
       refine tk 9 ?_
       refine tk 10 ?_
       refine tk 11 ?_
       refine tk 12 ?_
       refine rl 13 fun K hK=>?_
       go_simp
       refine(holds37 p f (some (ad sb so)) (some (ad yb yo)) ba oa pa (some (ad fb fo)) wc yc bc oc pc hc i (p.W x) _ H.out.1 H.out.2.1 hi hif (H.out.2.2.1.mono nr TD.out.1.1 nr) (H.out.2.2.2.mono nr TD.out.1.1 nr)).mono ?_
       rintro e w5 ⟨he,hb5⟩
       have T5:Hid ((Below w.heap.size w w5/\Box w5 w.heap.size 37 (vPl p (some (ad sb so)) wc (some (ad yb yo)) yc ba bc)/\Box w5 (w.heap.size+1) 42 (vFr f oa oc pa pc (some (ad fb fo)) hc))/\Box w5 tq 146 #[.int .i64 ((p.Y i).L k 0),.int .i64 ((p.Y i).L k 1)]):=⟨⟨TD.out.1.1.trans (hb5.mono TD.out.1.1.size),TD.out.1.2.1.mono hb5 nr,TD.out.1.2.2.mono hb5 nr⟩,TD.out.2.mono hb5 nr⟩
       clear hb5
       rw[HU.out] at he
       subst he
       go_wp2_with fail
       refine hK.out _ _ ?_ (fun hHeld13=>?_)
       ·
        exact⟨T5.out.2.cell 0,T5.out.1.2.1.cell 0,T5.out.1.2.1.cell 1,T5.out.1.2.1.cell 2,T5.out.1.2.1.cell 3,T5.out.1.2.1.cell 4,T5.out.1.2.2.cell 0,T5.out.1.2.2.cell 1,T5.out.1.2.2.cell 2,T5.out.1.2.2.cell 3,(T5.out.1.1.cell (p:=(ad sb (so+x))) HSW.out.1).trans HSW.out.2⟩
       clear hK K
       refine tk 14 ?_
       refine wpAnyH_done (by kernel_rfl) ?_ _
       have HT:Hid (anyB (fun j=>decide ((p.Y i).L j 0=(x:Int))) (p.Y i).nl=true):=anyB_yes hlt HB0.out
       have t1:=T5.out.2.cel 1
       have HE:Hid (WtR w p f i x (.returned (.int .i64 ((p.Y i).L k 1))) w5):=⟨_,rfl,by rw[HWT.out,HF0.out,HT.out,HU.out];simpa using (HL1.out k hlt),T5.out.1.1⟩
       clear HT T5
       go_wp2_with fail
       go_ret
       exact HE.out
      |false=>
       refine wp_region_held_drew (S:=(fun wx:World=>wx.cell? (ad tq 0)=some (.int .i64 ((p.Y i).L k 0))/\wx.cell? (ad w.heap.size 0)=some (.int .i64 p.sec)/\wx.cell? (ad w.heap.size 1)=some (.slice (some (ad sb so)) p.nw wc)/\wx.cell? (ad w.heap.size 2)=some (.slice (some (ad yb yo)) p.ny yc)/\wx.cell? (ad w.heap.size 3)=some (.slice ba p.nb bc)/\wx.cell? (ad w.heap.size 4)=some (.int .i64 p.hold)/\wx.cell? (ad ((w.heap.size+1)) 0)=some (.bool f.ok)/\wx.cell? (ad ((w.heap.size+1)) 1)=some (.slice oa f.no oc)/\wx.cell? (ad ((w.heap.size+1)) 2)=some (.slice pa f.np pc)/\wx.cell? (ad ((w.heap.size+1)) 3)=some (.slice (some (ad fb fo)) f.nh hc)/\wx.cell? (ad sb (so+x))=some (.int .i64 (p.W x)))) (by kernel_rfl) ?_ (fun hHeld=>?_)
       ·
        exact⟨TV.out.2.cell 0,TV.out.1.2.1.cell 0,TV.out.1.2.1.cell 1,TV.out.1.2.1.cell 2,TV.out.1.2.1.cell 3,TV.out.1.2.1.cell 4,TV.out.1.2.2.cell 0,TV.out.1.2.2.cell 1,TV.out.1.2.2.cell 2,TV.out.1.2.2.cell 3,(TV.out.1.1.cell (p:=(ad sb (so+x))) HSW.out.1).trans HSW.out.2⟩
       refine tk 0 ?_
       refine tk 1 ?_
       refine tk 2 ?_
       refine tk 3 ?_
       refine tk 4 ?_
       refine tk 5 ?_
       refine tk 6 ?_
       refine tk 7 ?_
       refine tk 8 ?_
       refine tk 9 ?_
       refine tk 10 ?_
       refine tk 11 ?_
       refine tk 12 ?_
       refine rl 13 fun K hK=>?_
       go_simp
       refine(holds37 p f (some (ad sb so)) (some (ad yb yo)) ba oa pa (some (ad fb fo)) wc yc bc oc pc hc i (p.W x) _ H.out.1 H.out.2.1 hi hif (H.out.2.2.1.mono nr TD.out.1.1 nr) (H.out.2.2.2.mono nr TD.out.1.1 nr)).mono ?_
       rintro e w5 ⟨he,hb5⟩
       have T5:Hid ((Below w.heap.size w w5/\Box w5 w.heap.size 37 (vPl p (some (ad sb so)) wc (some (ad yb yo)) yc ba bc)/\Box w5 (w.heap.size+1) 42 (vFr f oa oc pa pc (some (ad fb fo)) hc))/\Box w5 tq 146 #[.int .i64 ((p.Y i).L k 0),.int .i64 ((p.Y i).L k 1)]):=⟨⟨TD.out.1.1.trans (hb5.mono TD.out.1.1.size),TD.out.1.2.1.mono hb5 nr,TD.out.1.2.2.mono hb5 nr⟩,TD.out.2.mono hb5 nr⟩
       clear hb5
       rw[HU.out] at he
       subst he
       go_wp2_with fail
       refine hK.out _ _ ?_ (fun hHeld13=>?_)
       ·
        exact⟨T5.out.2.cell 0,T5.out.1.2.1.cell 0,T5.out.1.2.1.cell 1,T5.out.1.2.1.cell 2,T5.out.1.2.1.cell 3,T5.out.1.2.1.cell 4,T5.out.1.2.2.cell 0,T5.out.1.2.2.cell 1,T5.out.1.2.2.cell 2,T5.out.1.2.2.cell 3,(T5.out.1.1.cell (p:=(ad sb (so+x))) HSW.out.1).trans HSW.out.2⟩
       clear hK K
       refine tk 14 ?_
       refine wpAnyH_done (by kernel_rfl) ?_ _
       have HQ2:Hid (∀j,j<k+1->(decide ((p.Y i).L j 0=(x:Int))&&holdsB p f i (p.W x))=false):=fun j _=>by rw[HU.out,Bool.and_false]
       have S5:Hid (Below w.heap.size w w5/\Box w5 w.heap.size 37 (vPl p (some (ad sb so)) wc (some (ad yb yo)) yc ba bc)/\Box w5 (w.heap.size+1) 42 (vFr f oa oc pa pc (some (ad fb fo)) hc)):=T5.out.1
       clear T5
       go_wp2_with fail
       go_roundw
       case rel=>exact⟨k+1,by omega,by go_num,HQ2,S5⟩
       case measure=>simp[intOf];omega
     ·
      have HQ2:Hid (∀j,j<k+1->(decide ((p.Y i).L j 0=(x:Int))&&holdsB p f i (p.W x))=false):=fun j hj=>by
       by_cases c:j=k
       ·
        subst c
        simp[hB]
       ·
        exact HQ.out j (by omega)
      have zz:((p.Y i).L k 0==(x:Int))=false:=by simpa using hB
      clear hB
      refine wp_region_held_drew (S:=(fun wx:World=>wx.cell? (ad tq 0)=some (.int .i64 ((p.Y i).L k 0))/\wx.cell? (ad w.heap.size 0)=some (.int .i64 p.sec)/\wx.cell? (ad w.heap.size 1)=some (.slice (some (ad sb so)) p.nw wc)/\wx.cell? (ad w.heap.size 2)=some (.slice (some (ad yb yo)) p.ny yc)/\wx.cell? (ad w.heap.size 3)=some (.slice ba p.nb bc)/\wx.cell? (ad w.heap.size 4)=some (.int .i64 p.hold)/\wx.cell? (ad ((w.heap.size+1)) 0)=some (.bool f.ok)/\wx.cell? (ad ((w.heap.size+1)) 1)=some (.slice oa f.no oc)/\wx.cell? (ad ((w.heap.size+1)) 2)=some (.slice pa f.np pc)/\wx.cell? (ad ((w.heap.size+1)) 3)=some (.slice (some (ad fb fo)) f.nh hc)/\wx.cell? (ad sb (so+x))=some (.int .i64 (p.W x)))) (by kernel_rfl) ?_ (fun hHeld=>?_)
      ·
       exact⟨TV.out.2.cell 0,TV.out.1.2.1.cell 0,TV.out.1.2.1.cell 1,TV.out.1.2.1.cell 2,TV.out.1.2.1.cell 3,TV.out.1.2.1.cell 4,TV.out.1.2.2.cell 0,TV.out.1.2.2.cell 1,TV.out.1.2.2.cell 2,TV.out.1.2.2.cell 3,(TV.out.1.1.cell (p:=(ad sb (so+x))) HSW.out.1).trans HSW.out.2⟩
      refine tk 0 ?_
      refine tk 1 ?_
      refine tk 2 ?_
      refine tk 3 ?_
      refine tk 4 ?_
      refine tf 5 ?_
      refine tf 6 ?_
      refine tf 7 ?_
      refine tf 8 ?_
      refine tf 9 ?_
      refine tf 10 ?_
      refine tf 11 ?_
      refine tf 12 ?_
      refine tf 13 ?_
      refine tk 14 ?_
      refine wpAnyH_done (by kernel_rfl) ?_ _
      have S5:Hid (Below w.heap.size w V.drew/\Box V.drew w.heap.size 37 (vPl p (some (ad sb so)) wc (some (ad yb yo)) yc ba bc)/\Box V.drew (w.heap.size+1) 42 (vFr f oa oc pa pc (some (ad fb fo)) hc)):=TD.out.1
      go_wp2_with fail
      go_roundw
      case rel=>exact⟨k+1,by omega,by go_num,HQ2,S5⟩
      case measure=>simp[intOf];omega
    ·
     have HE:Hid (WtR w p f i x (.returned (.int .i64 0)) wr):=⟨_,rfl,by rw[HWT.out,HF0.out,any_and _ _ (fun j hj=>HQ.out j (by omega))];rfl,S1.out.1⟩
     have hge:¬((k:Int)<((p.Y i).nl:Int)):=by omega
     go_wp2_with fail
     go_ret
     exact HE.out
def selN (q:Nat->Bool):Nat->Nat
 |0=>0
 |n+1=>if q n then selN q n+1 else selN q n
def selD (q:Nat->Bool):Nat->Nat->Int
 |0=>fun _=>0
 |n+1=>if q n then updI (selD q n) (selN q n) (n:Int) else selD q n
theorem selN_yes {q:Nat->Bool}{n:Nat}(h:q n=true):selN q (n+1)=selN q n+1:=by simp[selN,h]
theorem selN_no {q:Nat->Bool}{n:Nat}(h:q n=false):selN q (n+1)=selN q n:=by simp[selN,h]
theorem selD_yes {q:Nat->Bool}{n:Nat}(h:q n=true):selD q (n+1)=updI (selD q n) (selN q n) (n:Int):=by simp[selD,h]
theorem selD_no {q:Nat->Bool}{n:Nat}(h:q n=false):selD q (n+1)=selD q n:=by simp[selD,h]
theorem selN_le (q:Nat->Bool):∀n,selN q n<=n
 |0=>Nat.le_refl _
 |n+1=>by
  have :=selN_le q n
  cases h:q n with
  |false=>rw[selN_no h];omega
  |true=>rw[selN_yes h];omega
def SelR (w:World) (q:Nat->Bool) (n:Nat) (e:Ending) (w':World):Prop:=
 ∃va vc,e=.returned (.slice va (selN q n) vc)/\VOwn w.heap.size 3 1 w' (.slice va (selN q n) vc) (selN q n) (oneF (selD q n))/\Below w.heap.size w w'
theorem way_lie {p:Pl}{y:Wy}(h:wayF p y=true):(∀j,j<y.nl->0<y.L j 1)/\∀j,j<y.nf->0<y.F j 1:=by
 simp only[wayF,Bool.and_eq_true] at h
 have h1:=h.1.1.1.2
 have h2:=h.1.1.2
 simp only[liesF,Bool.and_eq_true] at h1 h2
 refine⟨fun j hj=>?_,fun j hj=>?_⟩
 ·
  have h3:=allB_iff.1 h1.1 j hj
  simp only[tuF,Bool.and_eq_true,inB,decide_eq_true_eq] at h3
  omega
 ·
  have h3:=allB_iff.1 h2.1 j hj
  simp only[tuF,Bool.and_eq_true,inB,decide_eq_true_eq] at h3
  omega
set_option maxRecDepth 100000 in
set_option maxHeartbeats 8000000 in
theorem point51 (p:Pl) (f:Fm) (wa ya ba oa pa ha:Option Addr) (wc yc bc oc pc hc:Nat) (x:Nat) (w:World) (hs:p.small) (hnh:f.nh<=1048576) (hny:f.nh=p.ny) (hok:p.Ok) (hx:x<p.nw) (h:PlIn 0 w p wa ya ba) (hh:HsAt 0 w ha f.nh f.Y):
  Calls Tryz.prog 53 #[.agg #[.int .i64 p.sec,.slice wa p.nw wc,.slice ya p.ny yc,.slice ba p.nb bc,.int .i64 p.hold],.agg #[.bool f.ok,.slice oa f.no oc,.slice pa f.np pc,.slice ha f.nh hc],.int .i64 (x:Int)] w fun e w'=>SelR w (fun i=>wantsB p f i x) p.ny e w':=by
 have H:Hid (p.small/\f.nh<=1048576/\f.nh=p.ny/\p.Ok/\PlIn 0 w p wa ya ba/\HsAt 0 w ha f.nh f.Y):=⟨hs,hnh,hny,hok,h,hh⟩
 obtain⟨i0,hi0,hz0,hs0,hb0⟩:=info_parts infoInt
 have S0:Hid (Below w.heap.size w ((w.alloc (.cells (vPl p wa wc ya yc ba bc) 37)).alloc (.cells (vFr f oa oc pa pc ha hc) 42))/\Box ((w.alloc (.cells (vPl p wa wc ya yc ba bc) 37)).alloc (.cells (vFr f oa oc pa pc ha hc) 42)) w.heap.size 37 (vPl p wa wc ya yc ba bc)/\Box ((w.alloc (.cells (vPl p wa wc ya yc ba bc) 37)).alloc (.cells (vFr f oa oc pa pc ha hc) 42)) (w.heap.size+1) 42 (vFr f oa oc pa pc ha hc)):=⟨bel2 _ _ _,(Box.new _ _ _).alloc _,by have :=Box.new (w.alloc (.cells (vPl p wa wc ya yc ba bc) 37)) 42 (vFr f oa oc pa pc ha hc);simpa using this⟩
 have hpy:p.ny<=1048576:=hs.2.1
 clear h hh hs hok hnh hny
 go_enter Tryz.func53,Tryz.ntmps53
 go_wp2_with fail
 generalize ((w.alloc (.cells (vPl p wa wc ya yc ba bc) 37)).alloc (.cells (vFr f oa oc pa pc ha hc) 42))=V0 at S0⊢
 go_loopw [7,12] (fun u c wr=>∃(k m:Nat) (va:Option Addr) (vc:Nat) (D:Nat->Int),k<=p.ny/\m<=k/\c=.int .i64 (k:Int)/\u=.slice va m vc/\Hid (m=selN (fun i=>wantsB p f i x) k/\D=selD (fun i=>wantsB p f i x) k)/\Hid (Below V0.heap.size V0 wr/\VOwn V0.heap.size 3 1 wr (.slice va m vc) m (oneF D))) (fun _ c _=>p.ny-(intOf c).toNat)
 case atStart=>exact⟨0,0,none,0,fun _=>0,Nat.zero_le _,Nat.le_refl _,rfl,rfl,⟨rfl,rfl⟩,Below.refl _ _,VOwn.nil _ _ _ _ _⟩
 case round=>
  obtain⟨k,m,va,vc,D,hk,hm,rfl,rfl,HD,M⟩:=hrel
  by_cases hlt:k<p.ny
  ·
   have hk0:(0:Int)<=(k:Int):=by omega
   have hkn:(k:Int)<(p.ny:Int):=by omega
   have S1:Hid (Below w.heap.size w wr/\Box wr w.heap.size 37 (vPl p wa wc ya yc ba bc)/\Box wr (w.heap.size+1) 42 (vFr f oa oc pa pc ha hc)):=⟨S0.out.1.trans (M.out.1.mono S0.out.1.size),S0.out.2.1.mono M.out.1 nr,S0.out.2.2.mono M.out.1 nr⟩
   obtain⟨a0,a1,a2,a3,a4⟩:=S1.out.2.1.c5
   obtain⟨b0,b1,b2,b3⟩:=S1.out.2.2.c4
   go_wp2_with fail
   clear a0 a1 a2 a3 a4 b0 b1 b2 b3
   have HWL:Hid ((∀j,j<(p.Y k).nl->0<(p.Y k).L j 1)/\∀j,j<(p.Y k).nf->0<(p.Y k).F j 1):=way_lie (H.out.2.2.2.1.way k hlt)
   refine(wants87 p f wa ya ba oa pa ha wc yc bc oc pc hc k x wr H.out.1 H.out.2.1 hlt (by rw[H.out.2.2.1];exact hlt) hx HWL.out.1 HWL.out.2 (H.out.2.2.2.2.1.mono nr S1.out.1 nr) (H.out.2.2.2.2.2.mono nr S1.out.1 nr)).mono ?_
   rintro e w3 ⟨r,rfl,hr,hb3⟩
   have M3:Hid (Below V0.heap.size V0 w3/\VOwn V0.heap.size 3 1 w3 (.slice va m vc) m (oneF D)):=⟨M.out.1.trans (hb3.mono M.out.1.size),M.out.2.mono nr hb3 nr⟩
   clear hb3 S1 HWL M
   obtain⟨u,HU⟩:∃u,Hid (wantsB p f k x=u):=⟨_,rfl⟩
   rw[HU.out] at hr
   cases u with
   |false=>
    have hr0:¬(0<r):=by simpa using hr
    have HD2:Hid (m=selN (fun i=>wantsB p f i x) (k+1)/\D=selD (fun i=>wantsB p f i x) (k+1)):=⟨HD.out.1.trans (selN_no (q:=(fun i=>wantsB p f i x)) HU.out).symm,HD.out.2.trans (selD_no (q:=(fun i=>wantsB p f i x)) HU.out).symm⟩
    clear hr
    go_wp2_with fail
    go_roundw
    case rel=>exact⟨k+1,m,va,vc,D,by omega,by omega,by go_num,rfl,HD2,M3⟩
    case measure=>simp[intOf];omega
   |true=>
    have hr0:0<r:=by simpa using hr
    clear hr
    have hszr:V0.heap.size<=w3.heap.size:=M3.out.1.size
    have HD2:Hid (m+1=selN (fun i=>wantsB p f i x) (k+1)/\updI D m (k:Int)=selD (fun i=>wantsB p f i x) (k+1)):=⟨by rw[selN_yes (q:=(fun i=>wantsB p f i x)) HU.out,HD.out.1],by rw[selD_yes (q:=(fun i=>wantsB p f i x)) HU.out,HD.out.1,HD.out.2]⟩
    have HW:Hid (VOwn V0.heap.size 3 1 w3 (.slice va m vc) m (oneF (updI D m (k:Int)))):=M3.out.2.congr fun i hi j _=>by simp[oneF,updI,hi]
    have hbx:Box (w3.alloc (.cells #[.int .i64 (k:Int)] 3)) w3.heap.size 3 #[.int .i64 (k:Int)]:=Box.new _ _ _
    go_wp2_with(at_builtin;go_must (refine wpList_vapp _ rfl _ _ 22 rfl V0.heap.size 3 i0 _ 1 8 Tryz.underlying22 hi0 hz0 hs0 hb0 rfl (by decide) (.slice va m vc) m (oneF (updI D m (k:Int))) rfl (HW.out.alloc _) (fun _ _=>rfl) w3.heap.size 1 #[.int .i64 (k:Int)] rfl hbx (by simp[oneF,updI]) (by simp only[maxLen];omega) (by omega) (by simp;omega) (Halt.mk ?_)))
    intro v2 w2 o2 g2
    obtain⟨va2,vc2,rfl⟩:=o2.val
    have M2:Hid (Below V0.heap.size V0 w2/\VOwn V0.heap.size 3 1 w2 (.slice va2 (m+1) vc2) (m+1) (oneF (updI D m (k:Int)))):=⟨(M3.out.1.alloc hszr _).grown g2 (by simp;omega) (fun j hj=>(HW.out.lt hj).1),o2⟩
    clear o2 g2 HW hbx
    go_wp2_with fail
    go_roundw
    case rel=>exact⟨k+1,m+1,va2,vc2,_,by omega,by omega,by go_num,rfl,HD2,M2⟩
    case measure=>simp[intOf];omega
  ·
   obtain rfl:k=p.ny:=by omega
   have HF:Hid (SelR w (fun i=>wantsB p f i x) p.ny (.returned (.slice va m vc)) wr):=by
    obtain⟨e1,e2⟩:=HD.out
    refine⟨va,vc,by rw[e1],?_,S0.out.1.trans (M.out.1.mono S0.out.1.size)⟩
    rw[<-e1,<-e2]
    exact M.out.2.keep S0.out.1.size fun _ _=>rfl
   go_wp2_with fail
   go_ret
   exact HF.out
end Go.Proofs.YtkeilejbelblcaaGreatDoor
namespace Go.Proofs.YtkeilejbelblcaaGreatDoor
open Go.RowKit
set_option maxHeartbeats 400000 in
theorem is88 (a b:Int) (pq:Nat) (x:Int) (w:World) (hlt:pq<w.heap.size) (hx:w.cell? (ad pq 0)=some (.int .i64 x)):
  Calls Tryz.prog 146 #[.agg #[.int .i64 a,.int .i64 b],.pointer (some (ad pq 0))] w fun e w'=>e=.returned (.bool (decide (a=x)))/\Below w.heap.size w w':=by
 go_enter Tryz.func146,Tryz.ntmps146
 go_wp2_with fail
 go_ret
 exact⟨by simp;rfl,bel1 _ _⟩
def IxR (w:World) (L:Nat->Nat->Int) (n:Nat) (x:Int) (e:Ending) (w':World):Prop:=
 ∃r:Int,e=.returned (.int .i64 r)/\decide (0<=r)=anyB (fun j=>decide (L j 0=x)) n/\Below w.heap.size w w'
set_option maxRecDepth 100000 in
set_option maxHeartbeats 4000000 in
theorem index113 (a:Option Addr) (n c:Nat) (L:Nat->Nat->Int) (pq:Nat) (x:Int) (w:World) (hn:n<=1048576) (h:VsAt 2 0 w a n (intF L)) (hlt:pq<w.heap.size) (hx:w.cell? (ad pq 0)=some (.int .i64 x)):
  Calls Tryz.prog 152 #[.slice a n c,.func (.func 146) #[] #[.pointer (some (ad pq 0))]] w fun e w'=>IxR w L n x e w':=by
 have H:Hid (VsAt 2 0 w a n (intF L)/\pq<w.heap.size/\w.cell? (ad pq 0)=some (.int .i64 x)):=⟨h,hlt,hx⟩
 clear h hlt hx
 go_enter Tryz.func152,Tryz.ntmps152
 go_wp2_with fail
 go_loopw [8] (fun i wr=>∃k:Nat,k<=n/\i=.int .i64 k/\Hid (∀j,j<k->decide (L j 0=x)=false)/\Hid (Below w.heap.size w wr)) (fun i _=>n-(intOf i).toNat)
 case atStart=>exact⟨0,Nat.zero_le _,rfl,fun i hi=>absurd hi (Nat.not_lt_zero _),Below.refl _ _⟩
 case round=>
  obtain⟨k,hk,rfl,HK,HB⟩:=hrel
  by_cases hlt:k<n
  ·
   obtain⟨b,off,rfl,_,hb,hc⟩:=H.out.1.mono nr HB.out nr (by omega)
   have c0:wr.cell? (ad b (off+k*2))=some (.int .i64 (L k 0)):=hc k hlt 0 (by omega)
   have c1:wr.cell? (ad b (off+k*2+1))=some (.int .i64 (L k 1)):=hc k hlt 1 (by omega)
   have hk0:(0:Int)<=(k:Int):=by omega
   have hkn:(k:Int)<(n:Int):=by omega
   clear hc
   go_wp2_with fail
   refine(is88 (L k 0) (L k 1) pq x wr (Nat.lt_of_lt_of_le H.out.2.1 HB.out.size) (cell_keep HB.out H.out.2.1 H.out.2.2)).mono ?_
   rintro e w2 ⟨he,hb2⟩
   have HB2:Hid (Below w.heap.size w w2):=HB.out.trans (hb2.mono HB.out.size)
   clear hb2 c0 c1
   obtain⟨u,HU⟩:∃u,Hid (decide (L k 0=x)=u):=⟨_,rfl⟩
   rw[HU.out] at he
   subst he
   cases u with
   |true=>
    have HF:Hid (anyB (fun j=>decide (L j 0=x)) n=true):=anyB_yes hlt HU.out
    go_wp2_with fail
    go_ret
    exact⟨_,rfl,by rw[HF.out];simp,HB2.out⟩
   |false=>
    have HK2:Hid (∀j,j<k+1->decide (L j 0=x)=false):=fun j hj=>by
     by_cases c:j=k
     ·
      subst c
      exact HU.out
     ·
      exact HK.out j (by omega)
    go_wp2_with fail
    go_roundw
    case rel=>exact⟨k+1,by omega,by go_num,HK2,HB2⟩
    case measure=>simp[intOf];omega
  ·
   have HF:Hid (anyB (fun j=>decide (L j 0=x)) n=false):=anyB_no fun j hj=>HK.out j (by omega)
   have hge:¬((k:Int)<(n:Int)):=by omega
   go_wp2_with fail
   go_ret
   exact⟨_,rfl,by rw[HF.out];rfl,HB.out⟩
set_option maxHeartbeats 400000 in
theorem contains90 (a:Option Addr) (n c:Nat) (L:Nat->Nat->Int) (pq:Nat) (x:Int) (w:World) (hn:n<=1048576) (h:VsAt 2 0 w a n (intF L)) (hlt:pq<w.heap.size) (hx:w.cell? (ad pq 0)=some (.int .i64 x)):
  Calls Tryz.prog 147 #[.slice a n c,.func (.func 146) #[] #[.pointer (some (ad pq 0))]] w fun e w'=>e=.returned (.bool (anyB (fun j=>decide (L j 0=x)) n))/\Below w.heap.size w w':=by
 go_enter Tryz.func147,Tryz.ntmps147
 go_wp2_with fail
 refine(index113 a n c L pq x w hn h hlt hx).mono ?_
 rintro e w1 ⟨r,rfl,hr,hb⟩
 have HR:Hid (decide (0<=r)=anyB (fun j=>decide (L j 0=x)) n/\Below w.heap.size w w1):=⟨hr,hb⟩
 clear hr hb
 go_wp2_with fail
 go_ret
 exact⟨by rw[<-HR.out.1];rfl,HR.out.2⟩
set_option maxHeartbeats 1000000 in
theorem index83 (a:Option Addr) (n cap:Nat) (S:Nat->Int) (x:Int) (w:World) (hn:n<=1048576) (h:VsAt 1 0 w a n (oneF S)):
  Calls Tryz.prog 153 #[.slice a n cap,.int .i64 x] w fun e w'=>e=.returned (.int .i64 (placeZ (idxF S n x)))/\w'=w:=by
 have H:Hid (VsAt 1 0 w a n (oneF S)):=h
 clear h
 obtain⟨R,HR⟩:∃R,Hid (placeZ (idxF S n x)=R):=⟨_,rfl⟩
 rw[HR.out]
 go_enter Tryz.func153,Tryz.ntmps153
 go_wp2_with fail
 go_loop [8] (fun i=>∃k:Nat,k<=n/\i=.int .i64 k/\Hid (∀j,j<k->decide (S j=x)=false)) (fun i=>n-(intOf i).toNat)
 case atStart=>exact⟨0,Nat.zero_le _,rfl,fun i hi=>absurd hi (Nat.not_lt_zero _)⟩
 case round=>
  obtain⟨k,hk,rfl,HK⟩:=hrel
  by_cases hlt:k<n
  ·
   obtain⟨b,off,rfl,_,hb,hc⟩:=H.out (by omega)
   have c0:w.cell? (ad b (off+k))=some (.int .i64 (S k)):=by have :=hc k hlt 0 (by omega);rwa [Nat.mul_one] at this
   have hk0:(0:Int)<=(k:Int):=by omega
   have hkn:(k:Int)<(n:Int):=by omega
   clear hc
   by_cases hB:x=S k
   ·
    have HF:Hid (R=(k:Int)):=by
     rw[Hid,<-HR.out,idxF,firstB_hit HK.out hlt (by simp[hB])]
     rfl
    have zz:(x==S k)=true:=by simpa using hB
    clear hB
    go_wp2_with fail
    go_ret
    exact⟨by rw[HF.out];rfl,rfl⟩
   ·
    have HK2:Hid (∀j,j<k+1->decide (S j=x)=false):=fun j hj=>by
     by_cases c:j=k
     ·
      subst c
      simpa using fun e=>hB (Eq.symm e)
     ·
      exact HK.out j (by omega)
    have zz:(x==S k)=false:=by simpa using hB
    clear hB
    go_wp2_with fail
    go_round
    case rel=>exact⟨k+1,by omega,by go_num,HK2⟩
    case measure=>simp[intOf];omega
  ·
   obtain rfl:k=n:=by omega
   have HF:Hid (R= -1):=by
    rw[Hid,<-HR.out,idxF,firstB_none HK.out]
    rfl
   go_wp2_with fail
   go_ret
   exact⟨by rw[HF.out];rfl,rfl⟩
set_option maxHeartbeats 400000 in
theorem keeps174 (x:Int) (w:World):
  Calls Tryz.prog 193 #[.agg #[],.int .i64 x] w fun e w'=>e=.returned (.bool (false))/\Below w.heap.size w w':=by
 go_enter Tryz.func193,Tryz.ntmps193
 go_wp2
 all_goals go_ret
 all_goals first |exact⟨rfl,Below.refl _ _⟩|exact⟨rfl,bel1 _ _⟩|(exact⟨by simp_all,bel1 _ _⟩)|(exact⟨by simp_all,Below.refl _ _⟩)
set_option maxHeartbeats 400000 in
theorem keeps177 (sh:Bool) (x:Int) (w:World):
  Calls Tryz.prog 196 #[.agg #[.bool sh],.int .i64 x] w fun e w'=>e=.returned (.bool (true))/\Below w.heap.size w w':=by
 go_enter Tryz.func196,Tryz.ntmps196
 go_wp2
 all_goals go_ret
 all_goals first |exact⟨rfl,Below.refl _ _⟩|exact⟨rfl,bel1 _ _⟩|(exact⟨by simp_all,bel1 _ _⟩)|(exact⟨by simp_all,Below.refl _ _⟩)
set_option maxHeartbeats 400000 in
theorem keeps185 (x:Int) (w:World):
  Calls Tryz.prog 203 #[.agg #[],.int .i64 x] w fun e w'=>e=.returned (.bool (true))/\Below w.heap.size w w':=by
 go_enter Tryz.func203,Tryz.ntmps203
 go_wp2
 all_goals go_ret
 all_goals first |exact⟨rfl,Below.refl _ _⟩|exact⟨rfl,bel1 _ _⟩|(exact⟨by simp_all,bel1 _ _⟩)|(exact⟨by simp_all,Below.refl _ _⟩)
set_option maxHeartbeats 400000 in
theorem keeps188 (t:Int) (x:Int) (w:World):
  Calls Tryz.prog 206 #[.agg #[.int .i64 t],.int .i64 x] w fun e w'=>e=.returned (.bool (true))/\Below w.heap.size w w':=by
 go_enter Tryz.func206,Tryz.ntmps206
 go_wp2
 all_goals go_ret
 all_goals first |exact⟨rfl,Below.refl _ _⟩|exact⟨rfl,bel1 _ _⟩|(exact⟨by simp_all,bel1 _ _⟩)|(exact⟨by simp_all,Below.refl _ _⟩)
set_option maxHeartbeats 400000 in
theorem keeps191 (g:Int) (a:Option Addr) (n c:Nat) (sh:Bool) (x:Int) (w:World):
  Calls Tryz.prog 209 #[.agg #[.int .i64 g,.slice a n c,.bool sh],.int .i64 x] w fun e w'=>e=.returned (.bool (decide (g<=x)))/\Below w.heap.size w w':=by
 go_enter Tryz.func209,Tryz.ntmps209
 go_wp2
 all_goals go_ret
 all_goals first |exact⟨rfl,Below.refl _ _⟩|exact⟨rfl,bel1 _ _⟩|(exact⟨by simp_all,bel1 _ _⟩)|(exact⟨by simp_all,Below.refl _ _⟩)
end Go.Proofs.YtkeilejbelblcaaGreatDoor
