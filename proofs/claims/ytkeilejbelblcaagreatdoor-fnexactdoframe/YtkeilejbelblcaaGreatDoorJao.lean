import Derived.Test.YtkeilejbelblcaaGreatDoorJam
import Derived.Test.YtkeilejbelblcaaGreatDoorSd
import Derived.Test.YtkeilejbelblcaaGreatDoorGMoSm
import Derived.Test.YtkeilejbelblcaaGreatDoorGSaH5
namespace Go.Proofs.YtkeilejbelblcaaGreatDoor
open Go.RowKit
theorem plan5_zero {p:Pl}(h:(plan5 p).1=0):(plan5 p).2=0:=by
 unfold plan5 at h⊢
 cases e:firstB (fun i=>anyB (barF p i) (p.K i)) p.nb with
 |none=>rfl
 |some i=>simp[e] at h
theorem plan4_zero {p:Pl}(h:(plan4 p).1=0):(plan4 p).2=0:=by
 unfold plan4 at h⊢
 by_cases hb:p.nb=p.ny
 ·
  rw[if_pos hb] at h⊢
  cases e:firstB (fun i=>decide (p.K i≠p.ny)) p.nb with
  |none=>rw[e] at h;exact plan5_zero h
  |some i=>rw[e] at h;simp at h
 ·
  rw[if_neg hb] at h
  simp at h
theorem plan3_zero {p:Pl}(h:(plan3 p).1=0):(plan3 p).2=0:=by
 unfold plan3 at h⊢
 cases e:firstB (fun i=>!wayF p (p.Y i)) p.ny with
 |none=>rw[e] at h;exact plan4_zero h
 |some i=>rw[e] at h;simp at h
theorem plan2_zero {p:Pl}(h:(plan2 p).1=0):(plan2 p).2=0:=by
 unfold plan2 at h⊢
 cases e:firstB (fun i=>!inB (p.W i) 0 (p.sec-1)) p.nw with
 |none=>rw[e] at h;exact plan3_zero h
 |some i=>rw[e] at h;simp at h
theorem planF_zero {p:Pl}(h:(planF p).1=0):(planF p).2=0/\1<=p.sec/\p.sec<=60/\p.nw<=40/\p.ny<=100:=by
 by_cases e:headF p=true
 ·
  have e2:planF p=plan2 p:=if_pos e
  rw[e2] at h⊢
  refine⟨plan2_zero h,?_⟩
  simp only[headF,inB,Bool.and_eq_true,decide_eq_true_eq] at e
  exact⟨e.1.1.1.1,e.1.1.1.2,e.1.2,e.2⟩
 ·
  have e2:planF p=(1,0):=if_neg e
  rw[e2] at h
  simp at h
theorem firstB_all {p:Nat->Bool}:∀ {n:Nat},firstB p n=none->∀q,q<n->p q=false
 |0,_,q,hq=>absurd hq (Nat.not_lt_zero _)
 |n+1,h,q,hq=>by
  unfold firstB at h
  cases e:firstB p n with
  |some i=>rw[e] at h;cases h
  |none=>
   rw[e] at h
   cases e2:p n with
   |true=>rw[e2] at h;cases h
   |false=>
    by_cases c:q=n
    ·
     subst c
     exact e2
    ·
     exact firstB_all e q (by omega)
structure Pl.Ok (p:Pl):Prop where
 head:headF p=true
 way:∀i,i<p.ny->wayF p (p.Y i)=true
 nb:p.nb=p.ny
 row:∀i,i<p.nb->p.K i=p.ny
 bar:∀i,i<p.nb->∀k,k<p.K i->barF p i k=false
theorem planF_ok {p:Pl}(h:(planF p).1=0):p.Ok:=by
 by_cases e:headF p=true
 ·
  rw[planF,if_pos e,plan2] at h
  cases e2:firstB (fun i=>!inB (p.W i) 0 (p.sec-1)) p.nw with
  |some i=>rw[e2] at h;simp at h
  |none=>
   rw[e2] at h
   dsimp only at h
   rw[plan3] at h
   cases e3:firstB (fun i=>!wayF p (p.Y i)) p.ny with
   |some i=>rw[e3] at h;simp at h
   |none=>
    rw[e3] at h
    dsimp only at h
    rw[plan4] at h
    by_cases hb:p.nb=p.ny
    ·
     rw[if_pos hb] at h
     cases e4:firstB (fun i=>decide (p.K i≠p.ny)) p.nb with
     |some i=>rw[e4] at h;simp at h
     |none=>
      rw[e4] at h
      dsimp only at h
      rw[plan5] at h
      cases e5:firstB (fun i=>anyB (barF p i) (p.K i)) p.nb with
      |some i=>rw[e5] at h;simp at h
      |none=>
       refine⟨e,fun i hi=>by simpa using firstB_all e3 i hi,hb,fun i hi=>by simpa using firstB_all e4 i hi,fun i hi k hk=>?_⟩
       have h1:=firstB_all e5 i hi
       cases e6:barF p i k with
       |false=>rfl
       |true=>rw[anyB_yes hk e6] at h1;cases h1
    ·
     rw[if_neg hb] at h
     simp at h
 ·
  rw[planF,if_neg e] at h
  simp at h
theorem wayF_in {p:Pl}{y:Wy}(h:wayF p y=true):1<=y.ns/\y.In p.sec.toNat p.nw:=by
 simp only[wayF,Bool.and_eq_true,decide_eq_true_eq,listF,liesF,allB_iff,elF,tuF,inB] at h
 obtain⟨⟨⟨⟨⟨⟨⟨h1,h2⟩,h3⟩,h4⟩,h5⟩,h6⟩,_⟩,_⟩:=h
 refine⟨h1,fun j hj=>?_,fun j hj=>?_,fun j hj=>?_,fun j hj=>?_⟩
 ·
  have :=(h5.1 j hj).1.1
  exact⟨(y.L j 0).toNat,by omega,by omega⟩
 ·
  have :=(h6.1 j hj).1.1
  exact⟨(y.F j 0).toNat,by omega,by omega⟩
 ·
  have :=(h2.1 j hj).1
  exact⟨(y.S j).toNat,by omega,by omega⟩
 ·
  have :=(h3.1 j hj).1
  exact⟨(y.O j).toNat,by omega,by omega⟩
set_option maxHeartbeats 1000000 in
theorem ok30 (p:Pl) (wa ya ba:Option Addr) (wc yc bc:Nat) (w:World) (hs:p.small) (h:PlIn 0 w p wa ya ba):
  Calls Tryz.prog 30 #[.agg #[.int .i64 p.sec,.slice wa p.nw wc,.slice ya p.ny yc,.slice ba p.nb bc,.int .i64 p.hold]] w fun e w'=>e=.returned (.bool (decide ((planF p).1=0)))/\Below w.heap.size w w':=by
 have H:Hid (PlIn 0 w p wa ya ba):=h
 have HS:Hid p.small:=hs
 clear h hs
 go_enter Tryz.func30,Tryz.ntmps30
 go_wp2_with fail
 have B0:=bel1 w (.cells (vPl p wa wc ya yc ba bc) 37)
 refine(plan7 p wa ya ba wc yc bc _ HS.out (H.out.mono nr B0 nr)).mono ?_
 rintro e w1 ⟨he,hb⟩
 have B1:=B0.trans (hb.mono B0.size)
 clear hb B0
 obtain⟨d,hdd⟩:∃d,d=(planF p).2:=⟨_,rfl⟩
 rw[<-hdd] at he
 clear hdd
 by_cases hc:(planF p).1=0
 ·
  have HD:Hid (decide ((planF p).1=0)=true):=decide_eq_true hc
  rw[hc] at he
  clear hc
  subst he
  go_wp2_with fail
  go_ret
  exact⟨by rw[HD.out];rfl,B1.alloc B1.size _⟩
 ·
  have HD:Hid (decide ((planF p).1=0)=false):=decide_eq_false hc
  obtain⟨c,hcc⟩:∃c,c=(planF p).1:=⟨_,rfl⟩
  rw[<-hcc] at he hc
  clear hcc
  subst he
  go_wp2_with fail
  go_ret
  exact⟨by rw[HD.out];simp[hc],B1.alloc B1.size _⟩
theorem heldB_eq (st gone:Int) (nb:Nat) (B:Nat->Bool) (shown:Bool) (timer:Int) (n:Nat) (hold:Int):heldB ⟨st,gone,nb,B,shown,timer⟩ n hold=
 ((inB st 0 4&&(decide (nb=n)&&inB gone 0 ((n:Int)-1)))&&
 ((decide (st=4)||(allB (fun j=>!B j) nb&&decide (gone=0)))&&
 (allB B gone.toNat&&
 (if st=3 then shown&&inB timer 1 hold else(decide (timer=0)&&((decide (st≠0)||!shown)&&(decide (st≠2)||shown))))))):=rfl
set_option maxRecDepth 100000 in
set_option maxHeartbeats 16000000 in
theorem held32 (p:Pl) (f:Fm) (wa ya ba oa pa ha:Option Addr) (wc yc bc oc pc hc:Nat) (i:Nat) (w:World) (hs:p.small) (hfs:f.small) (hi:i<p.ny) (hih:i<f.nh) (h:PlIn 0 w p wa ya ba) (hf:FmIn 0 w f oa pa ha):
  Calls Tryz.prog 32 #[.agg #[.int .i64 p.sec,.slice wa p.nw wc,.slice ya p.ny yc,.slice ba p.nb bc,.int .i64 p.hold],.agg #[.bool f.ok,.slice oa f.no oc,.slice pa f.np pc,.slice ha f.nh hc],.int .i64 (i:Int)] w fun e w'=>e=.returned (.bool (heldB (f.Y i) (p.Y i).ns p.hold))/\Below w.heap.size w w':=by
 have hns:=(hs.2.2.1 i hi).1
 have hnb:=hfs.2.2.2 i hih
 obtain⟨b,off,hya,_,hb,hcy⟩:=h.wy (by omega)
 obtain⟨sa,sc,la,lc,fa,fc,oa',oc',ma,mc,x0,x1,x2,x3,x4,_⟩:=hcy i hi
 obtain⟨b2,off2,hha,_,hb2,hch⟩:=hf.h (by omega)
 obtain⟨ra,rc,y0,y1,y2,y3,y4,hv⟩:=hch i hih
 subst hya
 subst hha
 obtain⟨n,hn⟩:∃n,Hid ((p.Y i).ns=n):=⟨_,rfl⟩
 rw[hn.out] at x0 hns
 rcases hY:f.Y i with⟨st,gone,nb,B,shown,timer⟩
 rw[hY] at y0 y1 y2 y3 y4 hv hnb
 dsimp only at y0 y1 y2 y3 y4 hv hnb
 have hnn:n<=1048576:=by omega
 have B3:=bel3 w (.cells (vPl p wa wc (some (ad b off)) yc ba bc) 37) (.cells (vFr f oa oc pa pc (some (ad b2 off2)) hc) 42) (.cells #[.int .i64 st,.int .i64 gone,.slice ra nb rc,.bool shown,.int .i64 timer] 72)
 have B2:=bel2 w (.cells (vPl p wa wc (some (ad b off)) yc ba bc) 37) (.cells (vFr f oa oc pa pc (some (ad b2 off2)) hc) 42)
 have HX:Hid (Box (((w.alloc (.cells (vPl p wa wc (some (ad b off)) yc ba bc) 37)).alloc (.cells (vFr f oa oc pa pc (some (ad b2 off2)) hc) 42)).alloc (.cells #[.int .i64 st,.int .i64 gone,.slice ra nb rc,.bool shown,.int .i64 timer] 72)) w.heap.size 37 (vPl p wa wc (some (ad b off)) yc ba bc)/\Box (((w.alloc (.cells (vPl p wa wc (some (ad b off)) yc ba bc) 37)).alloc (.cells (vFr f oa oc pa pc (some (ad b2 off2)) hc) 42)).alloc (.cells #[.int .i64 st,.int .i64 gone,.slice ra nb rc,.bool shown,.int .i64 timer] 72)) (w.heap.size+1+1) 72 #[.int .i64 st,.int .i64 gone,.slice ra nb rc,.bool shown,.int .i64 timer]/\VsAt 1 0 (((w.alloc (.cells (vPl p wa wc (some (ad b off)) yc ba bc) 37)).alloc (.cells (vFr f oa oc pa pc (some (ad b2 off2)) hc) 42)).alloc (.cells #[.int .i64 st,.int .i64 gone,.slice ra nb rc,.bool shown,.int .i64 timer] 72)) ra nb (boolF B)/\Below w.heap.size w (((w.alloc (.cells (vPl p wa wc (some (ad b off)) yc ba bc) 37)).alloc (.cells (vFr f oa oc pa pc (some (ad b2 off2)) hc) 42)).alloc (.cells #[.int .i64 st,.int .i64 gone,.slice ra nb rc,.bool shown,.int .i64 timer] 72))):=⟨((Box.new w 37 _).alloc _).alloc _,by have :=Box.new ((w.alloc (.cells (vPl p wa wc (some (ad b off)) yc ba bc) 37)).alloc (.cells (vFr f oa oc pa pc (some (ad b2 off2)) hc) 42)) 72 #[.int .i64 st,.int .i64 gone,.slice ra nb rc,.bool shown,.int .i64 timer];simpa using this,hv.mono nr B3 nr,B3⟩
 have u0:(((w.alloc (.cells (vPl p wa wc (some (ad b off)) yc ba bc) 37)).alloc (.cells (vFr f oa oc pa pc (some (ad b2 off2)) hc) 42)).alloc (.cells #[.int .i64 st,.int .i64 gone,.slice ra nb rc,.bool shown,.int .i64 timer] 72)).cell? (ad b (off+i*5))=some (.slice sa n sc):=cell_keep B3 hb x0
 have v0:((w.alloc (.cells (vPl p wa wc (some (ad b off)) yc ba bc) 37)).alloc (.cells (vFr f oa oc pa pc (some (ad b2 off2)) hc) 42)).cell? (ad b2 (off2+i*5))=some (.int .i64 st):=cell_keep B2 hb2 y0
 have v1:((w.alloc (.cells (vPl p wa wc (some (ad b off)) yc ba bc) 37)).alloc (.cells (vFr f oa oc pa pc (some (ad b2 off2)) hc) 42)).cell? (ad b2 (off2+i*5+1))=some (.int .i64 gone):=cell_keep B2 hb2 y1
 have v2:((w.alloc (.cells (vPl p wa wc (some (ad b off)) yc ba bc) 37)).alloc (.cells (vFr f oa oc pa pc (some (ad b2 off2)) hc) 42)).cell? (ad b2 (off2+i*5+2))=some (.slice ra nb rc):=cell_keep B2 hb2 y2
 have v3:((w.alloc (.cells (vPl p wa wc (some (ad b off)) yc ba bc) 37)).alloc (.cells (vFr f oa oc pa pc (some (ad b2 off2)) hc) 42)).cell? (ad b2 (off2+i*5+3))=some (.bool shown):=cell_keep B2 hb2 y3
 have v4:((w.alloc (.cells (vPl p wa wc (some (ad b off)) yc ba bc) 37)).alloc (.cells (vFr f oa oc pa pc (some (ad b2 off2)) hc) 42)).cell? (ad b2 (off2+i*5+4))=some (.int .i64 timer):=cell_keep B2 hb2 y4
 have hi0:(0:Int)<=(i:Int):=by omega
 have hil:(i:Int)<(p.ny:Int):=by omega
 have hil2:(i:Int)<(f.nh:Int):=by omega
 rw[hn.out]
 obtain⟨R,HR⟩:∃R,Hid (heldB ⟨st,gone,nb,B,shown,timer⟩ n p.hold=R):=⟨_,rfl⟩
 rw[HR.out]
 have HE:=HR.out
 rw[heldB_eq] at HE
 have HEE:Hid (_=R):=HE
 clear HE hs hfs h hf hcy hch hv x0 x1 x2 x3 x4 y0 y1 y2 y3 y4 B3 B2 hY hb hb2 hns
 go_enter Tryz.func32,Tryz.ntmps32
 go_wp2_with fail
 generalize (((w.alloc (.cells (vPl p wa wc (some (ad b off)) yc ba bc) 37)).alloc (.cells (vFr f oa oc pa pc (some (ad b2 off2)) hc) 42)).alloc (.cells #[.int .i64 st,.int .i64 gone,.slice ra nb rc,.bool shown,.int .i64 timer] 72))=W at HX u0⊢
 obtain⟨c0,c1,c2,c3,c4⟩:=HX.out.2.1.c5
 have e4:=HX.out.1.cel 4
 clear v0 v1 v2 v3 v4
 refine(in24 st 0 4 _).mono ?_
 rintro e w1 ⟨he,hw⟩
 have hw:=hw.symm
 subst hw
 cases hA:inB st 0 4 with
 |false=>
  have HF:Hid (R=false):=by rw[Hid,<-HEE.out,hA];rfl
  rw[hA] at he
  subst he
  go_wp2_with fail
  go_ret
  exact⟨by rw[HF.out];rfl,HX.out.2.2.2⟩
 |true=>
  rw[hA] at he
  subst he
  have hst:0<=st/\st<=4:=by simpa [inB] using hA
  by_cases hN:nb=n
  ·
   subst hN
   have hbn:((nb:Int) !=(nb:Int))=false:=by simp
   go_wp2_with fail
   refine(in24 gone 0 ((nb:Int)-1) _).mono ?_
   rintro e w1 ⟨he,hw⟩
   have hw:=hw.symm
   subst hw
   cases hG:inB gone 0 ((nb:Int)-1) with
   |false=>
    have HF:Hid (R=false):=by rw[Hid,<-HEE.out,hA,hG];simp
    rw[hG] at he
    subst he
    go_wp2_with fail
    go_ret
    exact⟨by rw[HF.out];rfl,HX.out.2.2.2⟩
   |true=>
    rw[hG] at he
    subst he
    have hgo:0<=gone/\gone<=(nb:Int)-1:=by simpa [inB] using hG
    obtain⟨g,hg⟩:∃g:Nat,gone=(g:Int):=⟨gone.toNat,by omega⟩
    subst hg
    have HE2:Hid (((decide (st=4)||(allB (fun j=>!B j) nb&&decide ((g:Int)=0)))&&(allB B g&&(if st=3 then shown&&inB timer 1 p.hold else(decide (timer=0)&&((decide (st≠0)||!shown)&&(decide (st≠2)||shown))))))=R):=by
     rw[Hid,<-HEE.out,hA,hG]
     simp
    clear HEE hA hG HR
    by_cases h4:st=4
    ·
     subst h4
     go_wp2_with fail
     go_loop [11] (fun i=>∃q:Nat,q<=g/\i=.int .i64 q/\Hid (∀i,i<q->B i=true)) (fun i=>g-(intOf i).toNat)
     case atStart=>exact⟨0,Nat.zero_le _,rfl,fun i hi=>absurd hi (Nat.not_lt_zero _)⟩
     case round=>
      obtain⟨q,hq,rfl,HQ⟩:=hrel
      by_cases hlt:q<g
      ·
       obtain⟨bb,ob,rfl,_,_,hc⟩:=HX.out.2.2.1 (by omega)
       have d0:W.cell? (ad bb (ob+q))=some (.bool (B q)):=by have :=hc q (by omega) 0 (by omega);rwa [Nat.mul_one] at this
       clear hc
       have hq0:(0:Int)<=(q:Int):=by omega
       have hqn:(q:Int)<(nb:Int):=by omega
       have hqg:(q:Int)<(g:Int):=by omega
       cases hB:B q with
       |false=>
        rw[hB] at d0
        have HF:Hid (R=false):=by rw[Hid,<-HE2.out];simp[allB_no hlt hB]
        go_wp2_with fail
        go_ret
        exact⟨by rw[HF.out];rfl,HX.out.2.2.2⟩
       |true=>
        rw[hB] at d0
        have HQ2:Hid (∀k,k<q+1->B k=true):=fun k hk=>by
         by_cases e:k=q
         ·
          subst e
          exact hB
         ·
          exact HQ.out k (by omega)
        go_wp2_with fail
        go_round
        case rel=>exact⟨q+1,by omega,by go_num,HQ2⟩
        case measure=>simp[intOf];omega
      ·
       obtain rfl:q=g:=by omega
       have hA:allB B q=true:=allB_iff.2 HQ.out
       have HE3:Hid (decide (timer=0)=R):=by
        rw[Hid,<-HE2.out,hA]
        simp
       by_cases ht:timer=0
       ·
        subst ht
        go_wp2_with fail
        go_ret
        exact⟨by rw[<-HE3.out];rfl,HX.out.2.2.2⟩
       ·
        have htz:(timer==0)=false:=by simpa using ht
        go_wp2_with fail
        go_ret
        exact⟨by rw[<-HE3.out];simp[ht],HX.out.2.2.2⟩
    ·
     have hz4:(st !=4)=true:=by simpa using h4
     go_wp2_with fail
     go_loop [49] (fun i=>∃q:Nat,q<=nb/\i=.int .i64 q/\Hid (∀i,i<q->B i=false)) (fun i=>nb-(intOf i).toNat)
     case atStart=>exact⟨0,Nat.zero_le _,rfl,fun i hi=>absurd hi (Nat.not_lt_zero _)⟩
     case round=>
      obtain⟨q,hq,rfl,HQ⟩:=hrel
      by_cases hlt:q<nb
      ·
       obtain⟨bb,ob,rfl,_,_,hc⟩:=HX.out.2.2.1 (by omega)
       have d0:W.cell? (ad bb (ob+q))=some (.bool (B q)):=by have :=hc q hlt 0 (by omega);rwa [Nat.mul_one] at this
       clear hc
       have hq0:(0:Int)<=(q:Int):=by omega
       have hqn:(q:Int)<(nb:Int):=by omega
       cases hB:B q with
       |true=>
        rw[hB] at d0
        have HF:Hid (R=false):=by rw[Hid,<-HE2.out];simp[h4,allB_no (f:=fun j=>!B j) hlt (show(!B q)=false by simp[hB])]
        go_wp2_with fail
        go_ret
        exact⟨by rw[HF.out];rfl,HX.out.2.2.2⟩
       |false=>
        rw[hB] at d0
        have HQ2:Hid (∀k,k<q+1->B k=false):=fun k hk=>by
         by_cases e:k=q
         ·
          subst e
          exact hB
         ·
          exact HQ.out k (by omega)
        go_wp2_with fail
        go_round
        case rel=>exact⟨q+1,by omega,by go_num,HQ2⟩
        case measure=>simp[intOf];omega
      ·
       obtain rfl:q=nb:=by omega
       have hA:allB (fun j=>!B j) q=true:=allB_iff.2 fun k hk=>by simp[HQ.out k hk]
       by_cases hg0:g=0
       ·
        subst hg0
        have HE3:Hid ((if st=3 then shown&&inB timer 1 p.hold else(decide (timer=0)&&((decide (st≠0)||!shown)&&(decide (st≠2)||shown))))=R):=by
         rw[Hid,<-HE2.out,hA]
         simp[allB,h4]
        go_wp2_with fail
        go_loop [11] (fun i=>i=.int .i64 0) (fun _=>0)
        case atStart=>rfl
        case round=>
         subst hrel
         rcases(show st=0\/st=1\/st=2\/st=3 by omega) with e|e|e|e
         ·
          subst e
          by_cases ht:timer=0
          ·
           subst ht
           cases hsh:shown with
           |false=>
            rw[hsh] at c3 HE3
            have HF:Hid (R=true):=by rw[Hid,<-HE3.out];simp
            go_wp2_with fail
            go_ret
            exact⟨by rw[HF.out];rfl,HX.out.2.2.2⟩
           |true=>
            rw[hsh] at c3 HE3
            have HF:Hid (R=false):=by rw[Hid,<-HE3.out];simp
            go_wp2_with fail
            go_ret
            exact⟨by rw[HF.out];rfl,HX.out.2.2.2⟩
          ·
           have htz:(timer==0)=false:=by simpa using ht
           have HF:Hid (R=false):=by rw[Hid,<-HE3.out];simp[ht]
           go_wp2_with fail
           go_ret
           exact⟨by rw[HF.out];rfl,HX.out.2.2.2⟩
         ·
          subst e
          by_cases ht:timer=0
          ·
           subst ht
           cases hsh:shown with
           |false=>
            rw[hsh] at c3 HE3
            have HF:Hid (R=true):=by rw[Hid,<-HE3.out];simp
            go_wp2_with fail
            go_ret
            exact⟨by rw[HF.out];rfl,HX.out.2.2.2⟩
           |true=>
            rw[hsh] at c3 HE3
            have HF:Hid (R=true):=by rw[Hid,<-HE3.out];simp
            go_wp2_with fail
            go_ret
            exact⟨by rw[HF.out];rfl,HX.out.2.2.2⟩
          ·
           have htz:(timer==0)=false:=by simpa using ht
           have HF:Hid (R=false):=by rw[Hid,<-HE3.out];simp[ht]
           go_wp2_with fail
           go_ret
           exact⟨by rw[HF.out];rfl,HX.out.2.2.2⟩
         ·
          subst e
          by_cases ht:timer=0
          ·
           subst ht
           cases hsh:shown with
           |false=>
            rw[hsh] at c3 HE3
            have HF:Hid (R=false):=by rw[Hid,<-HE3.out];simp
            go_wp2_with fail
            go_ret
            exact⟨by rw[HF.out];rfl,HX.out.2.2.2⟩
           |true=>
            rw[hsh] at c3 HE3
            have HF:Hid (R=true):=by rw[Hid,<-HE3.out];simp
            go_wp2_with fail
            go_ret
            exact⟨by rw[HF.out];rfl,HX.out.2.2.2⟩
          ·
           have htz:(timer==0)=false:=by simpa using ht
           have HF:Hid (R=false):=by rw[Hid,<-HE3.out];simp[ht]
           go_wp2_with fail
           go_ret
           exact⟨by rw[HF.out];rfl,HX.out.2.2.2⟩
         ·
          subst e
          cases hsh:shown with
          |false=>
           rw[hsh] at c3 HE3
           have HF:Hid (R=false):=by rw[Hid,<-HE3.out];simp
           go_wp2_with fail
           go_ret
           exact⟨by rw[HF.out];rfl,HX.out.2.2.2⟩
          |true=>
           rw[hsh] at c3 HE3
           have HF:Hid (R=inB timer 1 p.hold):=by rw[Hid,<-HE3.out];simp
           go_wp2_with fail
           refine(in24 timer 1 p.hold _).mono ?_
           rintro e w1 ⟨he,hw⟩
           have hw:=hw.symm
           subst hw
           subst he
           go_wp2_with fail
           go_ret
           exact⟨by rw[HF.out];rfl,HX.out.2.2.2⟩
       ·
        have hgz:((g:Int) !=0)=true:=by simpa using hg0
        have HF:Hid (R=false):=by rw[Hid,<-HE2.out];simp[h4,hg0]
        go_wp2_with fail
        go_ret
        exact⟨by rw[HF.out];rfl,HX.out.2.2.2⟩
  ·
   have HF:Hid (R=false):=by rw[Hid,<-HEE.out,hA];simp[hN]
   have hbn:((nb:Int) !=(n:Int))=true:=by simp;omega
   go_wp2_with fail
   go_ret
   exact⟨by rw[HF.out];rfl,HX.out.2.2.2⟩
def sameB (x y:Hl):Bool:=decide (x.st=y.st)&&(decide (x.gone=y.gone)&&(decide (x.shown=y.shown)&&(decide (x.timer=y.timer)&&allB (fun j=>decide (x.B j=y.B j)) x.nb)))
theorem sameB_iff {x y:Hl}(hn:x.nb=y.nb):sameB x y=true↔likeH x y:=by
 simp only[sameB,Bool.and_eq_true,decide_eq_true_eq,allB_iff,likeH]
 exact⟨fun⟨a,b,c,d,e⟩=>⟨a,b,hn,e,c,d⟩,fun⟨a,b,_,e,c,d⟩=>⟨a,b,c,d,e⟩⟩
set_option maxRecDepth 100000 in
set_option maxHeartbeats 16000000 in
theorem same35 (f g:Fm) (oa pa ha oa2 pa2 ha2:Option Addr) (oc pc hc oc2 pc2 hc2:Nat) (w:World) (hfs:f.nh<=1048576) (hfb:∀i,i<f.nh->(f.Y i).nb<=1048576) (hgb:∀i,i<f.nh->(g.Y i).nb=(f.Y i).nb) (hf:HsAt 0 w ha f.nh f.Y) (hh:HsAt 0 w ha2 f.nh g.Y):
  Calls Tryz.prog 35 #[.agg #[.bool f.ok,.slice oa f.no oc,.slice pa f.np pc,.slice ha f.nh hc],.agg #[.bool g.ok,.slice oa2 g.no oc2,.slice pa2 g.np pc2,.slice ha2 f.nh hc2]] w fun e w'=>e=.returned (.bool (allB (fun i=>sameB (f.Y i) (g.Y i)) f.nh))/\Below w.heap.size w w':=by
 have HX:Hid (Below w.heap.size w ((w.alloc (.cells (vFr f oa oc pa pc ha hc) 42)).alloc (.cells #[.bool g.ok,.slice oa2 g.no oc2,.slice pa2 g.np pc2,.slice ha2 f.nh hc2] 42))/\Box ((w.alloc (.cells (vFr f oa oc pa pc ha hc) 42)).alloc (.cells #[.bool g.ok,.slice oa2 g.no oc2,.slice pa2 g.np pc2,.slice ha2 f.nh hc2] 42)) w.heap.size 42 (vFr f oa oc pa pc ha hc)/\Box ((w.alloc (.cells (vFr f oa oc pa pc ha hc) 42)).alloc (.cells #[.bool g.ok,.slice oa2 g.no oc2,.slice pa2 g.np pc2,.slice ha2 f.nh hc2] 42)) (w.heap.size+1) 42 #[.bool g.ok,.slice oa2 g.no oc2,.slice pa2 g.np pc2,.slice ha2 f.nh hc2]/\HsAt 0 ((w.alloc (.cells (vFr f oa oc pa pc ha hc) 42)).alloc (.cells #[.bool g.ok,.slice oa2 g.no oc2,.slice pa2 g.np pc2,.slice ha2 f.nh hc2] 42)) ha f.nh f.Y/\HsAt 0 ((w.alloc (.cells (vFr f oa oc pa pc ha hc) 42)).alloc (.cells #[.bool g.ok,.slice oa2 g.no oc2,.slice pa2 g.np pc2,.slice ha2 f.nh hc2] 42)) ha2 f.nh g.Y/\(∀i,i<f.nh->(f.Y i).nb<=1048576/\(g.Y i).nb=(f.Y i).nb)):=⟨bel2 _ _ _,(Box.new _ _ _).alloc _,by have :=Box.new (w.alloc (.cells (vFr f oa oc pa pc ha hc) 42)) 42 #[.bool g.ok,.slice oa2 g.no oc2,.slice pa2 g.np pc2,.slice ha2 f.nh hc2];simpa using this,hf.mono nr (bel2 _ _ _) nr,hh.mono nr (bel2 _ _ _) nr,fun i hi=>⟨hfb i hi,hgb i hi⟩⟩
 obtain⟨R,HR⟩:∃R,Hid (allB (fun i=>sameB (f.Y i) (g.Y i)) f.nh=R):=⟨_,rfl⟩
 rw[HR.out]
 clear hf hh hfb hgb
 go_enter Tryz.func35,Tryz.ntmps35
 go_wp2_with fail
 generalize ((w.alloc (.cells (vFr f oa oc pa pc ha hc) 42)).alloc (.cells #[.bool g.ok,.slice oa2 g.no oc2,.slice pa2 g.np pc2,.slice ha2 f.nh hc2] 42))=W at HX⊢
 go_loopw [12] (fun i wr=>∃q:Nat,q<=f.nh/\i=.int .i64 q/\Hid (∀k,k<q->sameB (f.Y k) (g.Y k)=true)/\Hid (Below W.heap.size W wr)) (fun i _=>f.nh-(intOf i).toNat)
 case atStart=>exact⟨0,Nat.zero_le _,rfl,fun i hi=>absurd hi (Nat.not_lt_zero _),Below.refl _ _⟩
 case round=>
  obtain⟨q,hq,rfl,HQ,HBo⟩:=hrel
  by_cases hlt:q<f.nh
  ·
   obtain⟨b,off,hha,_,hb,hcc⟩:=HX.out.2.2.2.1.mono nr HBo.out nr (by omega)
   obtain⟨xa,xc,x0,x1,x2,x3,x4,hv⟩:=hcc q hlt
   obtain⟨b2,off2,hha2,_,hb2,hcc2⟩:=HX.out.2.2.2.2.1.mono nr HBo.out nr (by omega)
   obtain⟨ya,yc,y0,y1,y2,y3,y4,hv2⟩:=hcc2 q (by omega)
   obtain⟨hn1,hn2⟩:=HX.out.2.2.2.2.2 q hlt
   have HNO:Hid (sameB (f.Y q) (g.Y q)=false->R=false):=fun e=>by rw[<-HR.out];exact allB_no hlt e
   rcases hX:f.Y q with⟨xs,xg,nb,XB,xh,xt⟩
   rcases hY:g.Y q with⟨ys,yg,nb2,YB,yh,yt⟩
   have HXY:Hid (f.Y q=⟨xs,xg,nb,XB,xh,xt⟩/\g.Y q=⟨ys,yg,nb2,YB,yh,yt⟩):=⟨hX,hY⟩
   rw[hX] at x0 x1 x2 x3 x4 hv hn1 hn2 HNO
   rw[hY] at y0 y1 y2 y3 y4 hv2 hn2 HNO
   dsimp only at x0 x1 x2 x3 x4 hv y0 y1 y2 y3 y4 hv2 hn1 hn2
   obtain rfl:nb=nb2:=hn2.symm
   have a3:=(HX.out.2.1.mono HBo.out nr).cel 3
   have a32:=(HX.out.2.2.1.mono HBo.out nr).cel 3
   clear hcc hcc2 hX hY
   subst hha
   subst hha2
   have hwl:w.heap.size+1<wr.heap.size:=(HX.out.2.2.1.mono HBo.out nr).lt
   have hq0:(0:Int)<=(q:Int):=by omega
   have hqn:(q:Int)<(f.nh:Int):=by omega
   have y0':=(cell_keep (bel1 wr (.cells #[.int .i64 xs,.int .i64 xg,.slice xa nb xc,.bool xh,.int .i64 xt] 72)) hb2 y0)
   have y1':=(cell_keep (bel1 wr (.cells #[.int .i64 xs,.int .i64 xg,.slice xa nb xc,.bool xh,.int .i64 xt] 72)) hb2 y1)
   have y2':=(cell_keep (bel1 wr (.cells #[.int .i64 xs,.int .i64 xg,.slice xa nb xc,.bool xh,.int .i64 xt] 72)) hb2 y2)
   have y3':=(cell_keep (bel1 wr (.cells #[.int .i64 xs,.int .i64 xg,.slice xa nb xc,.bool xh,.int .i64 xt] 72)) hb2 y3)
   have y4':=(cell_keep (bel1 wr (.cells #[.int .i64 xs,.int .i64 xg,.slice xa nb xc,.bool xh,.int .i64 xt] 72)) hb2 y4)
   have a32':=(cell_keep (bel1 wr (.cells #[.int .i64 xs,.int .i64 xg,.slice xa nb xc,.bool xh,.int .i64 xt] 72)) hwl a32)
   have HV:Hid (Box ((wr.alloc (.cells #[.int .i64 xs,.int .i64 xg,.slice xa nb xc,.bool xh,.int .i64 xt] 72)).alloc (.cells #[.int .i64 ys,.int .i64 yg,.slice ya nb yc,.bool yh,.int .i64 yt] 72)) wr.heap.size 72 #[.int .i64 xs,.int .i64 xg,.slice xa nb xc,.bool xh,.int .i64 xt]/\Box ((wr.alloc (.cells #[.int .i64 xs,.int .i64 xg,.slice xa nb xc,.bool xh,.int .i64 xt] 72)).alloc (.cells #[.int .i64 ys,.int .i64 yg,.slice ya nb yc,.bool yh,.int .i64 yt] 72)) (wr.heap.size+1) 72 #[.int .i64 ys,.int .i64 yg,.slice ya nb yc,.bool yh,.int .i64 yt]/\VsAt 1 0 ((wr.alloc (.cells #[.int .i64 xs,.int .i64 xg,.slice xa nb xc,.bool xh,.int .i64 xt] 72)).alloc (.cells #[.int .i64 ys,.int .i64 yg,.slice ya nb yc,.bool yh,.int .i64 yt] 72)) xa nb (boolF XB)/\VsAt 1 0 ((wr.alloc (.cells #[.int .i64 xs,.int .i64 xg,.slice xa nb xc,.bool xh,.int .i64 xt] 72)).alloc (.cells #[.int .i64 ys,.int .i64 yg,.slice ya nb yc,.bool yh,.int .i64 yt] 72)) ya nb (boolF YB)):=⟨(Box.new _ _ _).alloc _,by have :=Box.new (wr.alloc (.cells #[.int .i64 xs,.int .i64 xg,.slice xa nb xc,.bool xh,.int .i64 xt] 72)) 72 #[.int .i64 ys,.int .i64 yg,.slice ya nb yc,.bool yh,.int .i64 yt];simpa using this,hv.mono nr (bel2 _ _ _) nr,hv2.mono nr (bel2 _ _ _) nr⟩
   have HVW:Hid (Below W.heap.size W ((wr.alloc (.cells #[.int .i64 xs,.int .i64 xg,.slice xa nb xc,.bool xh,.int .i64 xt] 72)).alloc (.cells #[.int .i64 ys,.int .i64 yg,.slice ya nb yc,.bool yh,.int .i64 yt] 72))):=(HBo.out.alloc HBo.out.size _).alloc (HBo.out.alloc HBo.out.size _).size _
   have HBT:Hid (Below w.heap.size w ((wr.alloc (.cells #[.int .i64 xs,.int .i64 xg,.slice xa nb xc,.bool xh,.int .i64 xt] 72)).alloc (.cells #[.int .i64 ys,.int .i64 yg,.slice ya nb yc,.bool yh,.int .i64 yt] 72))):=HX.out.1.trans (HVW.out.mono HX.out.1.size)
   clear y0 y1 y2 y3 y4 a32 hv hv2
   by_cases e0:xs=ys
   ·
    subst e0
    have z0:(xs !=xs)=false:=by simp
    by_cases e1:xg=yg
    ·
     subst e1
     have z1:(xg !=xg)=false:=by simp
     by_cases e2:xh=yh
     ·
      subst e2
      have z2:(xh !=xh)=false:=by simp
      by_cases e3:xt=yt
      ·
       subst e3
       have z3:(xt !=xt)=false:=by simp
       go_wp2_with fail
       generalize ((wr.alloc (.cells #[.int .i64 xs,.int .i64 xg,.slice xa nb xc,.bool xh,.int .i64 xt] 72)).alloc (.cells #[.int .i64 xs,.int .i64 xg,.slice ya nb yc,.bool xh,.int .i64 xt] 72))=V at HV HVW HBT⊢
       generalize wr.heap.size=xb at HV⊢
       go_loopw [54] (fun j wi=>∃r:Nat,r<=nb/\j=.int .i64 r/\Hid (∀k,k<r->XB k=YB k)/\Hid (Below V.heap.size V wi)) (fun j _=>nb-(intOf j).toNat)
       case atStart=>exact⟨0,Nat.zero_le _,rfl,fun i hi=>absurd hi (Nat.not_lt_zero _),Below.refl _ _⟩
       case round=>
        obtain⟨r,hr,rfl,HQr,HB⟩:=hrel
        by_cases hrn:r<nb
        ·
         obtain⟨gb,go,rfl,_,hgb,hgc⟩:=HV.out.2.2.1.mono nr HB.out nr (by omega)
         have c0:wr.cell? (ad gb (go+r))=some (.bool (XB r)):=by have :=hgc r hrn 0 (by omega);rwa [Nat.mul_one] at this
         clear hgc
         obtain⟨pb,po,rfl,_,hpb,hpc⟩:=HV.out.2.2.2.mono nr HB.out nr (by omega)
         have d0:wr.cell? (ad pb (po+r))=some (.bool (YB r)):=by have :=hpc r hrn 0 (by omega);rwa [Nat.mul_one] at this
         clear hpc
         have f1:=(HV.out.1.mono HB.out nr).cel 2
         have f2:=(HV.out.2.1.mono HB.out nr).cel 2
         have hr0:(0:Int)<=(r:Int):=by omega
         have hrn':(r:Int)<(nb:Int):=by omega
         have HBD:Hid (∀v,Below w.heap.size w (wr.drewN v)):=fun v=>below_drewN (HBT.out.trans (HB.out.mono HBT.out.size)) _
         cases hx:XB r with
         |true=>
          rw[hx] at c0
          cases hy:YB r with
          |true=>
           rw[hy] at d0
           have HGO:Hid (∀k,k<r+1->XB k=YB k):=fun k hk=>by
            by_cases e2:k=r
            ·
             subst e2
             rw[hx,hy]
            ·
             exact HQr.out k (by omega)
           go_wp2_with fail
           go_quiet (fail)
           go_wp2_with fail
           go_roundw
           case rel=>exact⟨r+1,by omega,by go_num,HGO,below_drewN HB.out _⟩
           case measure=>simp[intOf];omega
          |false=>
           rw[hy] at d0
           have HF:Hid (R=false):=HNO.out (by simp only[sameB];rw[allB_no hrn (by simp[hx,hy])];simp)
           go_wp2_with fail
           go_quiet (fail)
           go_wp2_with fail
           go_ret
           exact⟨by rw[HF.out];rfl,HBD.out _⟩
         |false=>
          rw[hx] at c0
          cases hy:YB r with
          |true=>
           rw[hy] at d0
           have HF:Hid (R=false):=HNO.out (by simp only[sameB];rw[allB_no hrn (by simp[hx,hy])];simp)
           go_wp2_with fail
           go_quiet (fail)
           go_wp2_with fail
           go_ret
           exact⟨by rw[HF.out];rfl,HBD.out _⟩
          |false=>
           rw[hy] at d0
           have HGO:Hid (∀k,k<r+1->XB k=YB k):=fun k hk=>by
            by_cases e2:k=r
            ·
             subst e2
             rw[hx,hy]
            ·
             exact HQr.out k (by omega)
           go_wp2_with fail
           go_quiet (fail)
           go_wp2_with fail
           go_roundw
           case rel=>exact⟨r+1,by omega,by go_num,HGO,below_drewN HB.out _⟩
           case measure=>simp[intOf];omega
        ·
         obtain rfl:r=nb:=by omega
         have HQ2:Hid (∀k,k<q+1->sameB (f.Y k) (g.Y k)=true):=fun k hk=>by
          by_cases e:k=q
          ·
           subst e
           rw[HXY.out.1,HXY.out.2]
           simp only[sameB,decide_true,Bool.true_and]
           exact allB_iff.2 fun k hk=>by simpa using HQr.out k hk
          ·
           exact HQ.out k (by omega)
         go_wp2_with fail
         go_roundw
         case rel=>exact⟨q+1,by omega,by go_num,HQ2,HVW.out.trans (HB.out.mono HVW.out.size)⟩
         case measure=>simp[intOf];omega
      ·
       have z3:(xt !=yt)=true:=by simpa using e3
       have HF:Hid (R=false):=HNO.out (by simp[sameB,e3])
       go_wp2_with fail
       go_ret
       exact⟨by rw[HF.out];rfl,HBT.out⟩
     ·
      have z2:(xh !=yh)=true:=by simpa using e2
      have HF:Hid (R=false):=HNO.out (by simp[sameB,e2])
      go_wp2_with fail
      go_ret
      exact⟨by rw[HF.out];rfl,HBT.out⟩
    ·
     have z1:(xg !=yg)=true:=by simpa using e1
     have HF:Hid (R=false):=HNO.out (by simp[sameB,e1])
     go_wp2_with fail
     go_ret
     exact⟨by rw[HF.out];rfl,HBT.out⟩
   ·
    have z0:(xs !=ys)=true:=by simpa using e0
    have HF:Hid (R=false):=HNO.out (by simp[sameB,e0])
    go_wp2_with fail
    go_ret
    exact⟨by rw[HF.out];rfl,HBT.out⟩
  ·
   obtain rfl:q=f.nh:=by omega
   have HF:Hid (R=true):=by rw[Hid,<-HR.out];exact allB_iff.2 HQ.out
   have HBT:Hid (Below w.heap.size w wr):=HX.out.1.trans (HBo.out.mono HX.out.1.size)
   go_wp2_with fail
   go_ret
   exact⟨by rw[HF.out];rfl,HBT.out⟩
end Go.Proofs.YtkeilejbelblcaaGreatDoor
