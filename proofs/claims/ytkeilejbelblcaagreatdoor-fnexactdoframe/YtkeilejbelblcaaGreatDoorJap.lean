import Derived.Test.YtkeilejbelblcaaGreatDoorJao
import Derived.Test.YtkeilejbelblcaaGreatDoorGMoSm
import Derived.Test.YtkeilejbelblcaaGreatDoorJai
import Derived.Test.YtkeilejbelblcaaGreatDoorJab
namespace Go.Proofs.YtkeilejbelblcaaGreatDoor
open Go.RowKit
def ptB (f:Fm) (j:Nat):Bool:=inB (f.P j 0) 1 2&&inB (f.P j 1) 0 2
def clashB (p:Pl) (f:Fm) (i k:Nat):Bool:=decide (i≠k)&&(p.T i k&&(decide ((f.Y i).st≠0)&&decide ((f.Y k).st≠0)))
def wayB (p:Pl) (f:Fm) (i:Nat):Bool:=heldB (f.Y i) (p.Y i).ns p.hold&&!anyB (clashB p f i) f.nh
def sizesB (p:Pl) (f:Fm):Bool:=decide ((planF p).1=0)&&(f.ok&&(decide ((f.no:Int)=p.sec)&&(decide (f.np=p.nw)&&decide (f.nh=p.ny))))
def frameB (p:Pl) (f:Fm):Bool:=sizesB p f&&(allB (ptB f) f.np&&(allB (wayB p f) f.nh&&allB (fun i=>sameB (f.Y i) (setH (vwOf (p.Y i) f.O f.P) (f.Y i))) f.nh))
theorem frameB_sizes {p:Pl}{f:Fm}(h:sizesB p f=false):frameB p f=false:=by rw[frameB,h];rfl
theorem useH_nb (v:Vw) (h:Hl):(useH v h).nb=h.nb:=by
 unfold useH
 dsimp only
 split<;>rfl
theorem setH_nb (v:Vw) (h:Hl):(setH v h).nb=h.nb:=by
 unfold setH
 by_cases a:h.st=0
 ·
  rw[if_pos a]
 ·
  rw[if_neg a]
  by_cases b:h.st≠4/\v.O 0=true
  ·
   rw[if_pos b]
   exact useH_nb _ _
  ·
   rw[if_neg b]
   by_cases c:h.st=1\/h.st=2
   ·
    rw[if_pos c]
    split<;>rfl
   ·
    rw[if_neg c]
    by_cases d:h.st=4
    ·
     rw[if_pos d]
     exact useH_nb _ _
    ·
     rw[if_neg d]
theorem settle34_0 (p:Pl) (wa ya ba:Option Addr) (wc yc bc fb:Nat) (v0 v1 v2:Value) (ha:Option Addr) (hc:Nat) (w:World) (hx:Box w fb 42 #[v0,v1,v2,.slice ha 0 hc]):
  Calls Tryz.prog 34 #[.agg #[.int .i64 p.sec,.slice wa p.nw wc,.slice ya p.ny yc,.slice ba p.nb bc,.int .i64 p.hold],.pointer (some (ad fb 0))] w fun e w'=>e=.returned (.tuple #[])/\Below w.heap.size w w':=by
 have f3:=hx.cel 3
 have hlt:=hx.lt
 have b1:=bel1 w (.cells (vPl p wa wc ya yc ba bc) 37)
 go_enter Tryz.func34,Tryz.ntmps34
 go_wp2_with fail
 go_loopw [12] (fun i wr=>i=.int .i64 0/\Below w.heap.size w wr) (fun _ _=>0)
 case atStart=>exact⟨rfl,b1⟩
 case round=>
  obtain⟨rfl,hb⟩:=hrel
  go_wp2_with fail
  exact bodyPost_end (v:=.tuple #[]) (by simp[results,Tryz.results34]) rfl ⟨rfl,hb⟩
set_option maxRecDepth 100000 in
set_option maxHeartbeats 16000000 in
theorem frame8 (p:Pl) (f:Fm) (wa ya ba:Option Addr) (wc yc bc:Nat) (ob oo pb po:Nat) (ha:Option Addr) (oc pc hc:Nat) (w:World) (hs:p.small) (hfs:f.small) (h:PlIn 0 w p wa ya ba) (hf:FmIn 0 w f (some (ad ob oo)) (some (ad pb po)) ha):
  Calls Tryz.prog 8 #[.agg #[.int .i64 p.sec,.slice wa p.nw wc,.slice ya p.ny yc,.slice ba p.nb bc,.int .i64 p.hold],.agg #[.bool f.ok,.slice (some (ad ob oo)) f.no oc,.slice (some (ad pb po)) f.np pc,.slice ha f.nh hc]] w fun e w'=>e=.returned (.bool (frameB p f))/\Below w.heap.size w w':=by
 have H:Hid (PlIn 0 w p wa ya ba/\FmIn 0 w f (some (ad ob oo)) (some (ad pb po)) ha/\p.small/\f.small):=⟨h,hf,hs,hfs⟩
 have S0:Hid (Below w.heap.size w ((w.alloc (.cells (vPl p wa wc ya yc ba bc) 37)).alloc (.cells (vFr f (some (ad ob oo)) oc (some (ad pb po)) pc ha hc) 42))/\Box ((w.alloc (.cells (vPl p wa wc ya yc ba bc) 37)).alloc (.cells (vFr f (some (ad ob oo)) oc (some (ad pb po)) pc ha hc) 42)) w.heap.size 37 (vPl p wa wc ya yc ba bc)/\Box ((w.alloc (.cells (vPl p wa wc ya yc ba bc) 37)).alloc (.cells (vFr f (some (ad ob oo)) oc (some (ad pb po)) pc ha hc) 42)) (w.heap.size+1) 42 (vFr f (some (ad ob oo)) oc (some (ad pb po)) pc ha hc)):=⟨bel2 _ _ _,(Box.new _ _ _).alloc _,by have :=Box.new (w.alloc (.cells (vPl p wa wc ya yc ba bc) 37)) 42 (vFr f (some (ad ob oo)) oc (some (ad pb po)) pc ha hc);simpa using this⟩
 obtain⟨R,HR⟩:∃R,Hid (frameB p f=R):=⟨_,rfl⟩
 rw[HR.out]
 have hnp:f.np<=1048576:=hfs.2.1
 have hnh:f.nh<=1048576:=hfs.2.2.1
 clear h hf hs hfs
 go_enter Tryz.func8,Tryz.ntmps8
 go_wp2_with fail
 generalize ((w.alloc (.cells (vPl p wa wc ya yc ba bc) 37)).alloc (.cells (vFr f (some (ad ob oo)) oc (some (ad pb po)) pc ha hc) 42))=W at S0⊢
 refine(ok30 p wa ya ba wc yc bc W H.out.2.2.1 (H.out.1.mono nr S0.out.1 nr)).mono ?_
 rintro e w1 ⟨he,hb1⟩
 have S1:Hid (Below w.heap.size w w1/\Box w1 w.heap.size 37 (vPl p wa wc ya yc ba bc)/\Box w1 (w.heap.size+1) 42 (vFr f (some (ad ob oo)) oc (some (ad pb po)) pc ha hc)):=⟨S0.out.1.trans (hb1.mono S0.out.1.size),S0.out.2.1.mono hb1 nr,S0.out.2.2.mono hb1 nr⟩
 clear hb1 S0
 have p0:=S1.out.2.1.cel 0
 have p1:=S1.out.2.1.cel 1
 have p2:=S1.out.2.1.cel 2
 have f0:=S1.out.2.2.cel 0
 have f1:=S1.out.2.2.cel 1
 have f2:=S1.out.2.2.cel 2
 have f3:=S1.out.2.2.cel 3
 have HNO:Hid (sizesB p f=false->R=false):=fun e=>by rw[<-HR.out];exact frameB_sizes e
 by_cases a0:(planF p).1=0
 rotate_left
 ·
  have HF:Hid (R=false):=HNO.out (by simp[sizesB,a0])
  rw[decide_eq_false a0] at he
  subst he
  go_wp2_with fail
  go_ret
  exact⟨by rw[HF.out];rfl,S1.out.1⟩
 rw[decide_eq_true a0] at he
 subst he
 cases a1:f.ok with
 |false=>
  have HF:Hid (R=false):=HNO.out (by simp[sizesB,a1])
  rw[a1] at f0
  go_wp2_with fail
  go_ret
  exact⟨by rw[HF.out];rfl,S1.out.1⟩
 |true=>
 rw[a1] at f0
 by_cases a2:(f.no:Int)=p.sec
 rotate_left
 ·
  have HF:Hid (R=false):=HNO.out (by simp[sizesB,a2])
  have z2:((f.no:Int) !=p.sec)=true:=by simpa using a2
  go_wp2_with fail
  go_ret
  exact⟨by rw[HF.out];rfl,S1.out.1⟩
 have z2:((f.no:Int) !=p.sec)=false:=by simpa using a2
 by_cases a3:f.np=p.nw
 rotate_left
 ·
  have HF:Hid (R=false):=HNO.out (by simp[sizesB,a3])
  have z3:((f.np:Int) !=(p.nw:Int))=true:=by simp;omega
  go_wp2_with fail
  go_ret
  exact⟨by rw[HF.out];rfl,S1.out.1⟩
 have z3:((f.np:Int) !=(p.nw:Int))=false:=by simp;omega
 by_cases a4:f.nh=p.ny
 rotate_left
 ·
  have HF:Hid (R=false):=HNO.out (by simp[sizesB,a4])
  have z4:((f.nh:Int) !=(p.ny:Int))=true:=by simp;omega
  have HA3:Hid (f.np=p.nw):=a3
  clear a3
  go_wp2_with fail
  go_ret
  exact⟨by rw[HF.out];rfl,S1.out.1⟩
 have z4:((f.nh:Int) !=(p.ny:Int))=false:=by simp;omega
 have HA:Hid ((planF p).1=0/\f.ok=true/\(f.no:Int)=p.sec/\f.np=p.nw/\f.nh=p.ny):=⟨a0,a1,a2,a3,a4⟩
 have HR2:Hid ((allB (ptB f) f.np&&(allB (wayB p f) f.nh&&allB (fun i=>sameB (f.Y i) (setH (vwOf (p.Y i) f.O f.P) (f.Y i))) f.nh))=R):=by
  rw[Hid,<-HR.out,frameB]
  have :sizesB p f=true:=by simp[sizesB,a0,a1,a2,a3,a4]
  rw[this,Bool.true_and]
 clear a0 a1 a2 a3 a4 HNO HR
 go_wp2_with fail
 clear z2 z3 z4 p0 p1 p2 f0 f1 f2 f3
 go_loopw [47] (fun i wr=>∃q:Nat,q<=f.np/\i=.int .i64 q/\Hid (∀k,k<q->ptB f k=true)/\Hid (Below w.heap.size w wr/\Box wr w.heap.size 37 (vPl p wa wc ya yc ba bc)/\Box wr (w.heap.size+1) 42 (vFr f (some (ad ob oo)) oc (some (ad pb po)) pc ha hc))) (fun i _=>f.np-(intOf i).toNat)
 case atStart=>exact⟨0,Nat.zero_le _,rfl,fun i hi=>absurd hi (Nat.not_lt_zero _),S1⟩
 case round=>
  clear S1
  obtain⟨q,hq,rfl,HQ,S⟩:=hrel
  by_cases hlt:q<f.np
  ·
   have HNO:Hid (ptB f q=false->R=false):=fun e=>by rw[<-HR2.out,allB_no hlt e];rfl
   obtain⟨b',off',e',_,hb,hc'⟩:=H.out.2.1.p.mono nr S.out.1 nr (by omega)
   simp only[Option.some.injEq,Addr.mk.injEq,and_true] at e'
   obtain⟨rfl,rfl⟩:=e'
   have c0:wr.cell? (ad pb (po+q*2))=some (.int .i64 (f.P q 0)):=hc' q hlt 0 (by omega)
   have c1:wr.cell? (ad pb (po+q*2+1))=some (.int .i64 (f.P q 1)):=hc' q hlt 1 (by omega)
   clear hc'
   have hq0:(0:Int)<=(q:Int):=by omega
   have hqn:(q:Int)<(f.np:Int):=by omega
   have S2:Hid (Below w.heap.size w (wr.alloc (.cells #[.int .i64 (f.P q 0),.int .i64 (f.P q 1)] 69))/\Box (wr.alloc (.cells #[.int .i64 (f.P q 0),.int .i64 (f.P q 1)] 69)) w.heap.size 37 (vPl p wa wc ya yc ba bc)/\Box (wr.alloc (.cells #[.int .i64 (f.P q 0),.int .i64 (f.P q 1)] 69)) (w.heap.size+1) 42 (vFr f (some (ad ob oo)) oc (some (ad pb po)) pc ha hc)):=⟨S.out.1.alloc S.out.1.size _,S.out.2.1.alloc _,S.out.2.2.alloc _⟩
   go_wp2_with fail
   refine(in24 (f.P q 0) 1 2 _).mono ?_
   rintro e w2 ⟨he,hw⟩
   have hw:=hw.symm
   subst hw
   cases hA:inB (f.P q 0) 1 2 with
   |false=>
    have HF:Hid (R=false):=HNO.out (by simp[ptB,hA])
    rw[hA] at he
    subst he
    go_wp2_with fail
    go_ret
    exact⟨by rw[HF.out];rfl,S2.out.1⟩
   |true=>
    rw[hA] at he
    subst he
    go_wp2_with fail
    refine(in24 (f.P q 1) 0 2 _).mono ?_
    rintro e w2 ⟨he,hw⟩
    have hw:=hw.symm
    subst hw
    cases hB:inB (f.P q 1) 0 2 with
    |false=>
     have HF:Hid (R=false):=HNO.out (by simp[ptB,hB])
     rw[hB] at he
     subst he
     go_wp2_with fail
     go_ret
     exact⟨by rw[HF.out];rfl,S2.out.1⟩
    |true=>
     have HQ2:Hid (∀k,k<q+1->ptB f k=true):=fun k hk=>by
      by_cases e:k=q
      ·
       subst e
       simp[ptB,hA,hB]
      ·
       exact HQ.out k (by omega)
     rw[hB] at he
     subst he
     go_wp2_with fail
     go_roundw
     case rel=>exact⟨q+1,by omega,by go_num,HQ2,S2⟩
     case measure=>simp[intOf];omega
  ·
   obtain rfl:q=f.np:=by omega
   have HR3:Hid ((allB (wayB p f) f.nh&&allB (fun i=>sameB (f.Y i) (setH (vwOf (p.Y i) f.O f.P) (f.Y i))) f.nh)=R):=by
    rw[Hid,<-HR2.out,allB_iff.2 HQ.out,Bool.true_and]
   have f3:=S.out.2.2.cel 3
   clear HR2 HQ
   go_wp2_with fail
   clear f3
   go_loopw [65] (fun i wr=>∃q:Nat,q<=f.nh/\i=.int .i64 q/\Hid (∀k,k<q->wayB p f k=true)/\Hid (Below w.heap.size w wr/\Box wr w.heap.size 37 (vPl p wa wc ya yc ba bc)/\Box wr (w.heap.size+1) 42 (vFr f (some (ad ob oo)) oc (some (ad pb po)) pc ha hc))) (fun i _=>f.nh-(intOf i).toNat)
   case atStart=>exact⟨0,Nat.zero_le _,rfl,fun i hi=>absurd hi (Nat.not_lt_zero _),S⟩
   case round=>
    clear S
    obtain⟨q,hq,rfl,HQ,S⟩:=hrel
    by_cases hlt:q<f.nh
    ·
     have HNO:Hid (wayB p f q=false->R=false):=fun e=>by rw[<-HR3.out,allB_no hlt e];rfl
     have p0:=S.out.2.1.cel 0
     have p1:=S.out.2.1.cel 1
     have p2:=S.out.2.1.cel 2
     have p3:=S.out.2.1.cel 3
     have p4:=S.out.2.1.cel 4
     have f0:=S.out.2.2.cel 0
     have f1:=S.out.2.2.cel 1
     have f2:=S.out.2.2.cel 2
     have f3:=S.out.2.2.cel 3
     have hqy:q<p.ny:=by have :=HA.out.2.2.2.2;omega
     go_wp2_with fail
     refine(held32 p f wa ya ba (some (ad ob oo)) (some (ad pb po)) ha wc yc bc oc pc hc q wr H.out.2.2.1 H.out.2.2.2 hqy hlt (H.out.1.mono nr S.out.1 nr) (H.out.2.1.mono nr S.out.1 nr)).mono ?_
     rintro e w2 ⟨he,hb2⟩
     have S2:Hid (Below w.heap.size w w2/\Box w2 w.heap.size 37 (vPl p wa wc ya yc ba bc)/\Box w2 (w.heap.size+1) 42 (vFr f (some (ad ob oo)) oc (some (ad pb po)) pc ha hc)):=⟨S.out.1.trans (hb2.mono S.out.1.size),S.out.2.1.mono hb2 nr,S.out.2.2.mono hb2 nr⟩
     clear hb2 S p0 p1 p2 p3 p4 f0 f1 f2 f3
     cases hH:heldB (f.Y q) (p.Y q).ns p.hold with
     |false=>
      have HF:Hid (R=false):=HNO.out (by simp[wayB,hH])
      rw[hH] at he
      subst he
      go_wp2_with fail
      go_ret
      exact⟨by rw[HF.out];rfl,S2.out.1⟩
     |true=>
      rw[hH] at he
      subst he
      obtain⟨hb,ho,hha,_,hhb,hch⟩:=H.out.2.1.h.mono nr S2.out.1 nr (by omega)
      obtain⟨bb,bo,hba,_,hbb,hcb⟩:=H.out.1.br.mono nr S2.out.1 nr (by have :=(planF_ok HA.out.1).nb;omega)
      subst hha
      subst hba
      have HST:Hid (∀k,k<f.nh->w2.cell? (ad hb (ho+k*5))=some (.int .i64 (f.Y k).st)):=fun k hk=>by
       obtain⟨_,_,x0,_⟩:=hch k hk
       exact x0
      have HOK:=Hid.out (p:=p.Ok) (planF_ok HA.out.1)
      obtain⟨ra,rcp,hrc,hrv⟩:=hcb q (by have :=HOK.nb;omega)
      have hKq:p.K q=f.nh:=by have :=HOK.row q (by have :=HOK.nb;omega);have :=HA.out.2.2.2.2;omega
      rw[hKq] at hrc hrv
      obtain⟨rb,ro,rfl,_,hrb,hcr⟩:=hrv (by omega)
      have HTC:Hid (∀k,k<f.nh->w2.cell? (ad rb (ro+k))=some (.bool (p.T q k))):=fun k hk=>by
       have :=hcr k hk 0 (by omega)
       rwa [Nat.mul_one] at this
      have f3:=S2.out.2.2.cel 3
      have p3:=S2.out.2.1.cel 3
      have hqb:(q:Int)<(p.nb:Int):=by have :=HOK.nb;omega
      have hq0:(0:Int)<=(q:Int):=by omega
      have hqn:(q:Int)<(f.nh:Int):=by omega
      have s0:=HST.out q hlt
      clear hch hcb hcr hrv HOK
      go_wp2_with fail
      go_loop [76] (fun j=>∃r:Nat,r<=f.nh/\j=.int .i64 r/\Hid (∀k,k<r->clashB p f q k=false)) (fun j=>f.nh-(intOf j).toNat)
      case atStart=>exact⟨0,Nat.zero_le _,rfl,fun i hi=>absurd hi (Nat.not_lt_zero _)⟩
      case round=>
       obtain⟨r,hr,rfl,HQr⟩:=hrel
       by_cases hrn:r<f.nh
       ·
        have t0:=HTC.out r hrn
        have s1:=HST.out r hrn
        have hr0:(0:Int)<=(r:Int):=by omega
        have hrn':(r:Int)<(f.nh:Int):=by omega
        have HGO:Hid (clashB p f q r=false->∀k,k<r+1->clashB p f q k=false):=fun e k hk=>by
         by_cases c:k=r
         ·
          subst c
          exact e
         ·
          exact HQr.out k (by omega)
        have HYES:Hid (clashB p f q r=true->R=false):=fun e=>HNO.out (by rw[wayB,anyB_yes hrn e];simp)
        by_cases hqr:q=r
        ·
         subst hqr
         go_wp2_with fail
         go_round
         case rel=>exact⟨q+1,by omega,by go_num,HGO.out (by simp[clashB])⟩
         case measure=>simp[intOf];omega
        ·
         have zq:((q:Int) !=(r:Int))=true:=by simp;omega
         cases hT:p.T q r with
         |false=>
          rw[hT] at t0
          go_wp2_with fail
          go_round
          case rel=>exact⟨r+1,by omega,by go_num,HGO.out (by simp[clashB,hT])⟩
          case measure=>simp[intOf];omega
         |true=>
          rw[hT] at t0
          by_cases sq:(f.Y q).st=0
          ·
           have z1:((f.Y q).st !=0)=false:=by simpa using sq
           rw[sq] at s0
           go_wp2_with fail
           go_round
           case rel=>exact⟨r+1,by omega,by go_num,HGO.out (by simp[clashB,sq])⟩
           case measure=>simp[intOf];omega
          ·
           have z1:((f.Y q).st !=0)=true:=by simpa using sq
           by_cases sr:(f.Y r).st=0
           ·
            rw[sr] at s1
            go_wp2_with fail
            go_round
            case rel=>exact⟨r+1,by omega,by go_num,HGO.out (by simp[clashB,sr])⟩
            case measure=>simp[intOf];omega
           ·
            have z2:((f.Y r).st !=0)=true:=by simpa using sr
            have HF:Hid (R=false):=HYES.out (by simp[clashB,hqr,hT,sq,sr])
            go_wp2_with fail
            go_ret
            exact⟨by rw[HF.out];rfl,S2.out.1⟩
       ·
        obtain rfl:r=f.nh:=by omega
        have HQ2:Hid (∀k,k<q+1->wayB p f k=true):=fun k hk=>by
         by_cases c:k=q
         ·
          subst c
          have :anyB (clashB p f k) f.nh=false:=anyB_no HQr.out
          rw[wayB,hH,this]
          rfl
         ·
          exact HQ.out k (by omega)
        go_wp2_with fail
        go_roundw
        case rel=>exact⟨q+1,by omega,by go_num,HQ2,S2⟩
        case measure=>simp[intOf];omega
    ·
     obtain rfl:q=f.nh:=by omega
     have HR4:Hid (allB (fun i=>sameB (f.Y i) (setH (vwOf (p.Y i) f.O f.P) (f.Y i))) f.nh=R):=by
      rw[Hid,<-HR3.out,allB_iff.2 HQ.out,Bool.true_and]
     have HW:Hid (∀i,i<f.nh->(p.Y i).In f.no f.np/\heldB (f.Y i) (p.Y i).ns p.hold=true):=fun i hi=>by
      have h1:=HQ.out i hi
      have h2:=wayF_in ((planF_ok HA.out.1).way i (by have :=HA.out.2.2.2.2;omega))
      have e1:p.sec.toNat=f.no:=by have :=HA.out.2.2.1;omega
      rw[e1,<-HA.out.2.2.2.1] at h2
      simp only[wayB,Bool.and_eq_true] at h1
      exact⟨h2.2,h1.1⟩
     have HNB:Hid (∀i,i<f.nh->1<=(f.Y i).nb/\(f.Y i).nb<=1048576):=fun i hi=>by
      obtain⟨_,_,h3,⟨g,_,h5⟩,_⟩:=heldB_parts (HW.out i hi).2
      exact⟨by omega,H.out.2.2.2.2.2.2 i hi⟩
     clear HQ
     have f0:=S.out.2.2.cel 0
     have f1:=S.out.2.2.cel 1
     have f2:=S.out.2.2.cel 2
     have f3:=S.out.2.2.cel 3
     go_wp2_with fail
     refine(copy33 f ob oo pb po ha oc pc hc wr H.out.2.2.2.1 H.out.2.2.2.2.1 H.out.2.2.2.2.2.1 HNB.out (H.out.2.1.o.mono nr S.out.1 nr) (H.out.2.1.p.mono nr S.out.1 nr) (H.out.2.1.h.mono nr S.out.1 nr)).mono ?_
     rintro e w2 ⟨ov,pv,hv,r,rc,rfl,vo,vp,vh,hne,hb2⟩
     have S2:Hid (Below w.heap.size w w2/\Box w2 w.heap.size 37 (vPl p wa wc ya yc ba bc)/\Box w2 (w.heap.size+1) 42 (vFr f (some (ad ob oo)) oc (some (ad pb po)) pc ha hc)):=⟨S.out.1.trans (hb2.mono S.out.1.size),S.out.2.1.mono hb2 nr,S.out.2.2.mono hb2 nr⟩
     have hsz:wr.heap.size<=w2.heap.size:=hb2.size
     have hw0:w.heap.size<=wr.heap.size:=S.out.1.size
     clear f0 f1 f2 f3
     obtain⟨oa2,oc2,rfl⟩:=vo.val
     obtain⟨pa2,pc2,rfl⟩:=vp.val
     obtain⟨ha2,hc2,rfl⟩:=vh.own.val
     have bG:Box (w2.alloc (.cells (vFr f oa2 oc2 pa2 pc2 ha2 hc2) 42)) w2.heap.size 42 (vFr f oa2 oc2 pa2 pc2 ha2 hc2):=Box.new _ _ _
     have S3:Hid (Below w.heap.size w (w2.alloc (.cells (vFr f oa2 oc2 pa2 pc2 ha2 hc2) 42))/\Box (w2.alloc (.cells (vFr f oa2 oc2 pa2 pc2 ha2 hc2) 42)) w.heap.size 37 (vPl p wa wc ya yc ba bc)/\Box (w2.alloc (.cells (vFr f oa2 oc2 pa2 pc2 ha2 hc2) 42)) (w.heap.size+1) 42 (vFr f (some (ad ob oo)) oc (some (ad pb po)) pc ha hc)):=⟨S2.out.1.alloc S2.out.1.size _,S2.out.2.1.alloc _,S2.out.2.2.alloc _⟩
     have p0:=S3.out.2.1.cel 0
     have p1:=S3.out.2.1.cel 1
     have p2:=S3.out.2.1.cel 2
     have p3:=S3.out.2.1.cel 3
     have p4:=S3.out.2.1.cel 4
     go_wp2_with fail
     clear p0 p1 p2 p3 p4
     have HB3:Hid (Below wr.heap.size wr (w2.alloc (.cells (vFr f oa2 oc2 pa2 pc2 ha2 hc2) 42))):=hb2.alloc hb2.size _
     by_cases hz:f.nh=0
     ·
      have HNIL:Hid (∀(v:World) (a:Option Addr) (Y:Nat->Hl),HsAt 0 v a f.nh Y):=fun v a Y h=>absurd h (by omega)
      have HZ:Hid (f.nh=0):=hz
      have bG2:=(congrArg (fun k:Nat=>Box (w2.alloc (.cells (vFr f oa2 oc2 pa2 pc2 ha2 hc2) 42)) w2.heap.size 42 #[.bool f.ok,.slice oa2 f.no oc2,.slice pa2 f.np pc2,.slice ha2 k hc2]) hz).mp bG
      refine(settle34_0 p wa ya ba wc yc bc w2.heap.size _ _ _ ha2 hc2 _ bG2).mono ?_
      rintro e w4 ⟨rfl,hb4⟩
      have S4:Hid (Below w.heap.size w w4/\Box w4 w.heap.size 37 (vPl p wa wc ya yc ba bc)/\Box w4 (w.heap.size+1) 42 (vFr f (some (ad ob oo)) oc (some (ad pb po)) pc ha hc)/\Box w4 w2.heap.size 42 (vFr f oa2 oc2 pa2 pc2 ha2 hc2)):=⟨S3.out.1.trans (hb4.mono S3.out.1.size),S3.out.2.1.mono hb4 nr,S3.out.2.2.mono hb4 nr,bG.mono hb4 nr⟩
      clear hb4 S3 bG bG2 S2 S HB3 hb2 vo vp vh hne hz
      have f0:=S4.out.2.2.1.cel 0
      have f1:=S4.out.2.2.1.cel 1
      have f2:=S4.out.2.2.1.cel 2
      have f3:=S4.out.2.2.1.cel 3
      have g0:=S4.out.2.2.2.cel 0
      have g1:=S4.out.2.2.2.cel 1
      have g2:=S4.out.2.2.2.cel 2
      have g3:=S4.out.2.2.2.cel 3
      go_wp2_with fail
      refine(same35 f ⟨f.ok,f.no,f.O,f.np,f.P,f.nh,fun i=>setH (vwOf (p.Y i) f.O f.P) (f.Y i)⟩ (some (ad ob oo)) (some (ad pb po)) ha oa2 pa2 ha2 oc pc hc oc2 pc2 hc2 w4 H.out.2.2.2.2.2.1 H.out.2.2.2.2.2.2 (fun i hi=>absurd hi (by have :=HZ.out;omega)) (HNIL.out _ _ _) (HNIL.out _ _ _)).mono ?_
      rintro e w5 ⟨rfl,hb5⟩
      go_wp2_with fail
      go_ret
      exact⟨by rw[<-HR4.out];rfl,S4.out.1.trans (hb5.mono S4.out.1.size)⟩
     ·
      obtain⟨gb,rfl⟩:∃gb,ha2=some (ad gb 0):=by
       obtain⟨g,e⟩:=vh.own.addr (by omega)
       exact⟨g,e.1⟩
      have HM:Hid (FMem wr.heap.size (w2.alloc (.cells (vFr f oa2 oc2 pa2 pc2 (some (ad gb 0)) hc2) 42)) w2.heap.size gb f.ok oa2 f.no oc2 f.O pa2 f.np pc2 f.P f.nh hc2 f.Y r rc):=FMem.of_copy hsz vo vp vh hne
      refine(settle34 p f wa ya ba oa2 pa2 wc yc bc oc2 pc2 hc2 w2.heap.size gb r rc wr _ H.out.2.2.1 H.out.2.2.2.1 H.out.2.2.2.2.1 HA.out.2.2.2.2 HM.out HW.out (H.out.1.mono nr S.out.1 nr) HB3.out).mono ?_
      rintro e w4 ⟨r2,rc2,rfl,hm4,hb4⟩
      have HM4:Hid (FMem wr.heap.size w4 w2.heap.size gb f.ok oa2 f.no oc2 f.O pa2 f.np pc2 f.P f.nh hc2 (fun i=>setH (vwOf (p.Y i) f.O f.P) (f.Y i)) r2 rc2):=hm4
      have HB4:Hid (Below wr.heap.size wr w4):=HB3.out.trans hb4
      have S4:Hid (Below w.heap.size w w4/\Box w4 w.heap.size 37 (vPl p wa wc ya yc ba bc)/\Box w4 (w.heap.size+1) 42 (vFr f (some (ad ob oo)) oc (some (ad pb po)) pc ha hc)):=⟨S.out.1.trans (HB4.out.mono S.out.1.size),S.out.2.1.mono HB4.out nr,S.out.2.2.mono HB4.out nr⟩
      clear hb4 S3 bG S2 HB3 hb2 vo vp vh hne hz HM hm4
      have f0:=S4.out.2.2.cel 0
      have f1:=S4.out.2.2.cel 1
      have f2:=S4.out.2.2.cel 2
      have f3:=S4.out.2.2.cel 3
      have g0:=HM4.out.bx.cel 0
      have g1:=HM4.out.bx.cel 1
      have g2:=HM4.out.bx.cel 2
      have g3:=HM4.out.bx.cel 3
      go_wp2_with fail
      refine(same35 f ⟨f.ok,f.no,f.O,f.np,f.P,f.nh,fun i=>setH (vwOf (p.Y i) f.O f.P) (f.Y i)⟩ (some (ad ob oo)) (some (ad pb po)) ha oa2 pa2 (some (ad gb 0)) oc pc hc oc2 pc2 hc2 w4 H.out.2.2.2.2.2.1 H.out.2.2.2.2.2.2 (fun i _=>setH_nb _ _) (H.out.2.1.h.mono nr S4.out.1 nr) HM4.out.hs).mono ?_
      rintro e w5 ⟨rfl,hb5⟩
      go_wp2_with fail
      go_ret
      exact⟨by rw[<-HR4.out];rfl,S4.out.1.trans (hb5.mono S4.out.1.size)⟩
def WsV (w:World) (n:Nat):WS->Value->Prop
 | .idle,v=>v=.iface 161 (.agg #[])
 | .set sh,v=>v=.iface 163 (.agg #[.bool sh])
 | .clear,v=>v=.iface 164 (.agg #[])
 | .taking t,v=>v=.iface 166 (.agg #[.int .i64 t])
 | .used g B sh,v=>∃b cap cur,v=.iface 169 (.agg #[.int .i64 (g:Int),.slice (some (ad b 0)) n cap,.bool sh])/\Box w b 4 cur/\VsAt 1 0 w (some (ad b 0)) n (boolF B)
theorem WsV.keep {w w':World}{n:Nat}{s:WS}{v:Value}(h:WsV w n s v) (hs:w.heap.size<=w'.heap.size) (hk:∀b,b<w.heap.size->w'.heap[b]?=w.heap[b]?):WsV w' n s v:=by
 cases s with
 |used g B sh=>
  obtain⟨b,cap,cur,h1,h2,h3⟩:=h
  exact⟨b,cap,cur,h1,h2.keep (hk b h2.lt),h3.keep nr hs fun x _ hx=>hk x hx⟩
 |idle=>exact h
 |set sh=>exact h
 |clear=>exact h
 |taking t=>exact h
theorem WsV.mono {w w':World}{n:Nat}{s:WS}{v:Value}{B:Nat}(h:WsV w n s v) (hb:Below B w w') (hB:w.heap.size<=B):WsV w' n s v:=
 h.keep hb.size fun b hlt=>hb.block b (by omega)
theorem WsV.one {w:World}{n:Nat}{s:WS}{v:Value}(h:WsV w n s v):∃t x,v=.iface t x:=by
 cases s with
 |used g B sh=>
  obtain⟨b,cap,cur,h1,_⟩:=h
  exact⟨_,_,h1⟩
 |idle=>exact⟨_,_,h⟩
 |set sh=>exact⟨_,_,h⟩
 |clear=>exact⟨_,_,h⟩
 |taking t=>exact⟨_,_,h⟩
set_option maxHeartbeats 1000000 in
theorem index136 (a:Option Addr) (n cap:Nat) (B:Nat->Bool) (w:World) (hn:n<=1048576) (h:VsAt 1 0 w a n (boolF B)):
  Calls Tryz.prog 130 #[.slice a n cap,.bool false] w fun e w'=>∃r:Int,e=.returned (.int .i64 r)/\decide (0<=r)=!allB B n/\w'=w:=by
 have H:Hid (VsAt 1 0 w a n (boolF B)):=h
 clear h
 go_enter Tryz.func130,Tryz.ntmps130
 go_wp2_with fail
 go_loop [8] (fun i=>∃k:Nat,k<=n/\i=.int .i64 k/\Hid (∀j,j<k->B j=true)) (fun i=>n-(intOf i).toNat)
 case atStart=>exact⟨0,Nat.zero_le _,rfl,fun i hi=>absurd hi (Nat.not_lt_zero _)⟩
 case round=>
  obtain⟨k,hk,rfl,HK⟩:=hrel
  by_cases hlt:k<n
  ·
   obtain⟨b,off,rfl,_,hb,hc⟩:=H.out (by omega)
   have c0:w.cell? (ad b (off+k))=some (.bool (B k)):=by have :=hc k hlt 0 (by omega);rwa [Nat.mul_one] at this
   have hk0:(0:Int)<=(k:Int):=by omega
   have hkn:(k:Int)<(n:Int):=by omega
   clear hc
   cases hB:B k with
   |false=>
    have HF:Hid (allB B n=false):=allB_no hlt hB
    rw[hB] at c0
    go_wp2_with fail
    go_ret
    exact⟨_,rfl,by rw[HF.out];simp,rfl⟩
   |true=>
    have HK2:Hid (∀j,j<k+1->B j=true):=fun j hj=>by
     by_cases c:j=k
     ·
      subst c
      exact hB
     ·
      exact HK.out j (by omega)
    rw[hB] at c0
    go_wp2_with fail
    go_round
    case rel=>exact⟨k+1,by omega,by go_num,HK2⟩
    case measure=>simp[intOf];omega
  ·
   obtain rfl:k=n:=by omega
   have HF:Hid (allB B k=true):=allB_iff.2 HK.out
   go_wp2_with fail
   go_ret
   exact⟨_,rfl,by rw[HF.out];rfl,rfl⟩
theorem contains113 (a:Option Addr) (n cap:Nat) (B:Nat->Bool) (w:World) (hn:n<=1048576) (h:VsAt 1 0 w a n (boolF B)):
  Calls Tryz.prog 106 #[.slice a n cap,.bool false] w fun e w'=>e=.returned (.bool (!allB B n))/\w'=w:=by
 go_enter Tryz.func106,Tryz.ntmps106
 go_wp2_with fail
 refine(index136 a n cap B w hn h).mono ?_
 rintro e w1 ⟨r,rfl,hr,rfl⟩
 go_wp2_with fail
 go_ret
 exact⟨by rw[<-hr];rfl,rfl⟩
def StR (w:World) (h:Hl) (n:Nat) (hold:Int) (e:Ending) (w':World):Prop:=
 ∃v,e=.returned v/\Below w.heap.size w w'/\((stateF h n hold=none/\v=.nilIface)\/∃s,stateF h n hold=some s/\WsV w' n s v)
set_option maxRecDepth 100000 in
set_option maxHeartbeats 4000000 in
theorem state80 (st gone:Int) (nb:Nat) (B:Nat->Bool) (sh:Bool) (tm:Int) (rb n:Nat) (hold:Int) (w:World) (hnb:nb<=1048576) (hn:n<=1048576) (cur:Array Value) (hlt:Box w rb 4 cur) (h:VsAt 1 0 w (some (ad rb 0)) nb (boolF B)):
  Calls Tryz.prog 79 #[.agg #[.int .i64 st,.int .i64 gone,.slice (some (ad rb 0)) nb nb,.bool sh,.int .i64 tm],.int .i64 (n:Int),.int .i64 hold] w fun e w'=>StR w ⟨st,gone,nb,B,sh,tm⟩ n hold e w':=by
 have H:Hid (Box w rb 4 cur/\VsAt 1 0 w (some (ad rb 0)) nb (boolF B)):=⟨hlt,h⟩
 have HB:Hid (Below w.heap.size w (w.alloc (.cells #[.int .i64 st,.int .i64 gone,.slice (some (ad rb 0)) nb nb,.bool sh,.int .i64 tm] 72))):=bel1 _ _
 have HNO:Hid (stateF ⟨st,gone,nb,B,sh,tm⟩ n hold=none->StR w ⟨st,gone,nb,B,sh,tm⟩ n hold (.returned .nilIface) (w.alloc (.cells #[.int .i64 st,.int .i64 gone,.slice (some (ad rb 0)) nb nb,.bool sh,.int .i64 tm] 72))):=fun e=>⟨_,rfl,HB.out,.inl ⟨e,rfl⟩⟩
 have HYES:Hid (∀s v,stateF ⟨st,gone,nb,B,sh,tm⟩ n hold=some s->WsV (w.alloc (.cells #[.int .i64 st,.int .i64 gone,.slice (some (ad rb 0)) nb nb,.bool sh,.int .i64 tm] 72)) n s v->StR w ⟨st,gone,nb,B,sh,tm⟩ n hold (.returned v) (w.alloc (.cells #[.int .i64 st,.int .i64 gone,.slice (some (ad rb 0)) nb nb,.bool sh,.int .i64 tm] 72))):=fun s v e hv=>⟨_,rfl,HB.out,.inr ⟨s,e,hv⟩⟩
 clear h hlt
 by_cases a0:nb=n
 rotate_left
 ·
  have z0:((nb:Int) !=(n:Int))=true:=by simp;omega
  have HF:=HNO.out (by simp[stateF,a0])
  go_enter Tryz.func79,Tryz.ntmps79
  go_wp2_with fail
  go_ret
  exact HF
 subst a0
 have z0:((nb:Int) !=(nb:Int))=false:=by simp
 by_cases a1:st=0
 ·
  subst a1
  have HF:=HYES.out .idle _ (by simp[stateF]) rfl
  go_enter Tryz.func79,Tryz.ntmps79
  go_wp2_with fail
  go_ret
  exact HF
 have z1:(st==0)=false:=by simpa using a1
 by_cases a2:st=1
 ·
  subst a2
  have HF:=HYES.out (.set sh) _ (by simp[stateF]) rfl
  go_enter Tryz.func79,Tryz.ntmps79
  go_wp2_with fail
  go_ret
  exact HF
 have z2:(st==1)=false:=by simpa using a2
 by_cases a3:st=2
 ·
  subst a3
  have HF:=HYES.out .clear _ (by simp[stateF]) rfl
  go_enter Tryz.func79,Tryz.ntmps79
  go_wp2_with fail
  go_ret
  exact HF
 have z3:(st==2)=false:=by simpa using a3
 by_cases a4:st=3
 ·
  subst a4
  go_enter Tryz.func79,Tryz.ntmps79
  go_wp2_with fail
  refine(within30 tm 1 hold _).mono ?_
  rintro e w1 ⟨he,hw⟩
  have hw:=hw.symm
  subst hw
  cases hI:inB tm 1 hold with
  |false=>
   have HF:=HNO.out (by simp[stateF,hI])
   rw[hI] at he
   subst he
   go_wp2_with fail
   go_ret
   exact HF
  |true=>
   have HF:=HYES.out (.taking tm) _ (by simp[stateF,hI]) rfl
   rw[hI] at he
   subst he
   go_wp2_with fail
   go_ret
   exact HF
 have z4:(st==3)=false:=by simpa using a4
 by_cases a5:st=4
 ·
  subst a5
  have hn64:(-9223372036854775808:Int)<=(nb:Int)-1/\(nb:Int)-1<=9223372036854775807:=by omega
  go_enter Tryz.func79,Tryz.ntmps79
  go_wp2_with fail
  refine(within30 gone 0 ((nb:Int)-1) _).mono ?_
  rintro e w1 ⟨he,hw⟩
  have hw:=hw.symm
  subst hw
  cases hI:inB gone 0 ((nb:Int)-1) with
  |false=>
   have HF:=HNO.out (by simp[stateF,hI])
   rw[hI] at he
   subst he
   go_wp2_with fail
   go_ret
   exact HF
  |true=>
   rw[hI] at he
   subst he
   have hI2:=hI
   simp only[inB,Bool.and_eq_true,decide_eq_true_eq] at hI2
   obtain⟨g,rfl⟩:∃g:Nat,gone=(g:Int):=⟨gone.toNat,by omega⟩
   have hg:g<=nb:=by omega
   have hg':(g:Int)<=(nb:Int):=by omega
   have hg0:(0:Int)<=(g:Int):=by omega
   clear hI2
   go_wp2_with fail
   refine(contains113 (some (ad rb 0)) g nb B _ (by omega) ?_).mono ?_
   ·
    intro h0
    obtain⟨b,off,e,h1,h2,h3⟩:=H.out.2.mono nr HB.out nr (by omega)
    exact⟨b,off,e,h1,h2,fun i hi=>h3 i (by omega)⟩
   rintro e w1 ⟨he,hw⟩
   have hw:=hw.symm
   subst hw
   cases hA:allB B g with
   |false=>
    have HF:=HNO.out (by simp[stateF,hI,hA])
    rw[hA] at he
    subst he
    go_wp2_with fail
    go_ret
    exact HF
   |true=>
    have HF:=HYES.out (.used g B sh) _ (by simp[stateF,hI,hA]) ⟨rb,nb,cur,rfl,H.out.1.mono HB.out nr,H.out.2.mono nr HB.out nr⟩
    rw[hA] at he
    subst he
    go_wp2_with fail
    go_ret
    exact HF
 have z5:(st==4)=false:=by simpa using a5
 have HF:=HNO.out (by simp[stateF,a1,a2,a3,a4,a5])
 go_enter Tryz.func79,Tryz.ntmps79
 go_wp2_with fail
 go_ret
 exact HF
set_option maxHeartbeats 400000 in
theorem toTurn (a0 a1:Int) (w:World):
  Calls Tryz.prog 125 #[.agg #[.int .i64 a0,.int .i64 a1]] w fun e w'=>e=.returned (.agg #[.int .i64 a0,.int .i64 a1])/\Below w.heap.size w w':=by
 go_enter Tryz.func125,Tryz.ntmps125
 go_wp2
 exact bodyPost_ret (v:=.agg #[.int .i64 a0,.int .i64 a1]) (by simp[results,Tryz.results125,go_sem]) rfl ⟨rfl,bel3 _ _ _ _⟩
set_option maxHeartbeats 1000000 in
theorem toTurnS (a:Option Addr) (n cap:Nat) (F:Nat->Nat->Int) (w:World) (hn:n<=1048576) (hE:VsAt 2 0 w a n (intF F)):
  Calls Tryz.prog 103 #[.slice a n cap] w fun e w'=>∃b,b=w.heap.size/\e=.returned (.slice (some (ad b 0)) n n)/\VOwn b 146 2 w' (.slice (some (ad b 0)) n n) n (intF F)/\Below w.heap.size w w':=by
 have hmk:=make_rows (P:=Tryz.prog) 110 146 _ 16 2 Tryz.underlying110 infoTurn n (by omega) (by omega)
 have hf0:=VTo.new 2 146 w (.agg #[.int .i64 0,.int .i64 0]) n (intF F)
 go_enter Tryz.func103,Tryz.ntmps103
 go_wp2_with fail
 go_loopw [4] (fun i wr=>∃(k:Nat),k<=n/\i=.int .i64 k/\VTo 2 146 wr w.heap.size n (k*2) (intF F)/\Below w.heap.size w wr) (fun i _=>n-(intOf i).toNat)
 case atStart=>exact⟨0,Nat.zero_le _,rfl,by first |exact hf0|simpa only[Nat.mul_one] using hf0,bel1 _ _⟩
 case round=>
  obtain⟨k,hk,rfl,hto,hbel⟩:=hrel
  clear hf0 hmk
  by_cases hlt:k<n
  ·
   obtain⟨b,off,rfl,_,hb,hc⟩:=(hE.mono nr hbel nr) (by omega)
   have c0:wr.cell? (ad b (off+k*2))=some (.int .i64 (F k 0)):=hc k hlt 0 (by omega)
   have c1:wr.cell? (ad b (off+k*2+1))=some (.int .i64 (F k 1)):=hc k hlt 1 (by omega)
   clear hc
   go_wp2_with fail
   refine(toTurn (F k 0) (F k 1) _).mono ?_
   rintro e w1 ⟨rfl,hb1⟩
   have hto1:VTo 2 146 w1 w.heap.size n (k*2) (intF F):=hto.below hb1
   have hbel1:=hbel.trans (hb1.mono hbel.size)
   have hR:=((hto1.step (x:=.int .i64 (F k 0)) (by rw[show(k*2) / 2=k by omega,show(k*2)%2=0 by omega]<;>rfl)).step (x:=.int .i64 (F k 1)) (by rw[show(k*2+1) / 2=k by omega,show(k*2+1)%2=1 by omega]<;>rfl))
   obtain⟨f,hr1,_⟩:=hto1
   have d0:=hr1.cell (i:=k*2) (by omega)
   have e0:=hr1.frozen (k*2)
   have d1:=hr1.cell (i:=k*2+1) (by omega)
   have e1:=hr1.frozen (k*2+1)
   clear c0 c1 hto hr1
   go_wp2_with fail
   go_roundw
   case rel=>exact⟨k+1,by omega,by go_num,by rw[show(k+1)*2=k*2+1+1 by omega];exact hR,((hbel1.setCell nr _).setCell nr _)⟩
   case measure=>simp[intOf];omega
  ·
   obtain rfl:k=n:=by omega
   go_wp2
   go_ret
   exact⟨_,rfl,rfl,VTo.own (by simpa using hto) (by simp[maxLen];omega),hbel⟩
set_option maxHeartbeats 1000000 in
theorem toBoolS (a:Option Addr) (n cap:Nat) (D:Nat->Bool) (w:World) (hn:n<=1048576) (hE:VsAt 1 0 w a n (boolF D)):
  Calls Tryz.prog 39 #[.slice a n cap] w fun e w'=>∃b,b=w.heap.size/\e=.returned (.slice (some (ad b 0)) n n)/\VOwn b 4 1 w' (.slice (some (ad b 0)) n n) n (boolF D)/\Below w.heap.size w w':=by
 have hmk:=make_rows (P:=Tryz.prog) 27 4 _ 1 1 Tryz.underlying27 infoBool n (by omega) (by omega)
 have hf0:=VTo.new 1 4 w (.bool false) n (boolF D)
 go_enter Tryz.func39,Tryz.ntmps39
 go_wp2_with fail
 go_loopw [4] (fun i wr=>∃(k:Nat),k<=n/\i=.int .i64 k/\VTo 1 4 wr w.heap.size n (k) (boolF D)/\Below w.heap.size w wr) (fun i _=>n-(intOf i).toNat)
 case atStart=>exact⟨0,Nat.zero_le _,rfl,by first |exact hf0|simpa only[Nat.mul_one] using hf0,bel1 _ _⟩
 case round=>
  obtain⟨k,hk,rfl,hto,hbel⟩:=hrel
  clear hf0 hmk
  by_cases hlt:k<n
  ·
   obtain⟨b,off,rfl,_,hb,hc⟩:=(hE.mono nr hbel nr) (by omega)
   have c0:wr.cell? (ad b (off+k))=some (.bool (D k)):=by have :=hc k hlt 0 (by omega);rwa [Nat.mul_one] at this
   clear hc
   have hto1:VTo 1 4 wr w.heap.size n (k) (boolF D):=hto
   have hbel1:=hbel
   have hR:=(hto1.step (x:=.bool (D k)) (by rw[show k / 1=k by omega]<;>rfl))
   obtain⟨f,hr1,_⟩:=hto1
   have d0:=hr1.cell (i:=k) (by omega)
   have e0:=hr1.frozen (k)
   clear hto hr1
   go_wp2_with fail
   go_roundw
   case rel=>exact⟨k+1,by omega,by go_num,by exact hR,(hbel1.setCell nr _)⟩
   case measure=>simp[intOf];omega
  ·
   obtain rfl:k=n:=by omega
   go_wp2
   go_ret
   exact⟨_,rfl,rfl,VTo.own (by simpa using hto) (by simp[maxLen];omega),hbel⟩
set_option maxHeartbeats 1000000 in
theorem toIntS (a:Option Addr) (n cap:Nat) (D:Nat->Int) (w:World) (hn:n<=1048576) (hE:VsAt 1 0 w a n (oneF D)):
  Calls Tryz.prog 36 #[.slice a n cap] w fun e w'=>∃b,b=w.heap.size/\e=.returned (.slice (some (ad b 0)) n n)/\VOwn b 3 1 w' (.slice (some (ad b 0)) n n) n (oneF D)/\Below w.heap.size w w':=by
 have hmk:=make_rows (P:=Tryz.prog) 22 3 _ 8 1 Tryz.underlying22 infoInt n (by omega) (by omega)
 have hf0:=VTo.new 1 3 w (.int .i64 0) n (oneF D)
 go_enter Tryz.func36,Tryz.ntmps36
 go_wp2_with fail
 go_loopw [4] (fun i wr=>∃(k:Nat),k<=n/\i=.int .i64 k/\VTo 1 3 wr w.heap.size n (k) (oneF D)/\Below w.heap.size w wr) (fun i _=>n-(intOf i).toNat)
 case atStart=>exact⟨0,Nat.zero_le _,rfl,by first |exact hf0|simpa only[Nat.mul_one] using hf0,bel1 _ _⟩
 case round=>
  obtain⟨k,hk,rfl,hto,hbel⟩:=hrel
  clear hf0 hmk
  by_cases hlt:k<n
  ·
   obtain⟨b,off,rfl,_,hb,hc⟩:=(hE.mono nr hbel nr) (by omega)
   have c0:wr.cell? (ad b (off+k))=some (.int .i64 (D k)):=by have :=hc k hlt 0 (by omega);rwa [Nat.mul_one] at this
   clear hc
   have hto1:VTo 1 3 wr w.heap.size n (k) (oneF D):=hto
   have hbel1:=hbel
   have hR:=(hto1.step (x:=.int .i64 (D k)) (by rw[show k / 1=k by omega]<;>rfl))
   obtain⟨f,hr1,_⟩:=hto1
   have d0:=hr1.cell (i:=k) (by omega)
   have e0:=hr1.frozen (k)
   clear hto hr1
   go_wp2_with fail
   go_roundw
   case rel=>exact⟨k+1,by omega,by go_num,by exact hR,(hbel1.setCell nr _)⟩
   case measure=>simp[intOf];omega
  ·
   obtain rfl:k=n:=by omega
   go_wp2
   go_ret
   exact⟨_,rfl,rfl,VTo.own (by simpa using hto) (by simp[maxLen];omega),hbel⟩
end Go.Proofs.YtkeilejbelblcaaGreatDoor
