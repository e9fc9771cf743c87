import Derived.Test.YtkeilejbelblcaaGreatDoorJaz
import Derived.Test.YtkeilejbelblcaaGreatDoorJbc
import Derived.Test.YtkeilejbelblcaaGreatDoorJap
import Derived.Test.YtkeilejbelblcaaGreatDoorJao
import Derived.Test.YtkeilejbelblcaaGreatDoorJba
import Derived.Test.YtkeilejbelblcaaGreatDoorJar
namespace Go.Proofs.YtkeilejbelblcaaGreatDoor
open Go.RowKit
def keepsB (p:Pl) (S:Nat->WS) (i:Nat) (x:Int):Bool:=match idxF (p.Y i).S (p.Y i).ns x with
 |some j=>keepN (S i) j
 |none=>false
theorem frame_in {p:Pl}{f:Fm}(h:frameB p f=true):p.Ok/\f.nh=p.ny/\f.np=p.nw/\(f.no:Int)=p.sec/\∀k,k<p.ny->(p.Y k).In f.no f.np:=by
 have hz:sizesB p f=true:=by
  simp only[frameB,Bool.and_eq_true] at h
  exact h.1
 obtain⟨hok,_,_,h1,h2,h3⟩:=sizes_ok hz
 refine⟨hok,h3,h2,h1,fun k hk=>?_⟩
 have h4:=(wayF_in (hok.way k hk)).2
 have e1:p.sec.toNat=f.no:=by omega
 rw[e1,<-h2] at h4
 exact h4
theorem frame_st {p:Pl}{f:Fm}(h:frameB p f=true) {i:Nat}(hi:i<p.ny):heldB (f.Y i) (p.Y i).ns p.hold=true/\stateF (f.Y i) (p.Y i).ns p.hold=some (stS p f i):=by
 have h2:=h
 rw[<-desk_frame] at h2
 obtain⟨_,hnh,_⟩:=frame_in h
 simp only[frameB,Bool.and_eq_true] at h
 have h3:=allB_iff.1 h.2.2.1 i (by omega)
 simp only[wayB,Bool.and_eq_true] at h3
 simp only[deskB,Bool.and_eq_true] at h2
 have h4:=allB_iff.1 h2.2.2.1 i (by omega)
 obtain⟨s,hst⟩:=Option.isSome_iff_exists.1 h4
 exact⟨h3.1,by rw[hst,stS,hst];rfl⟩
theorem held_gone {h:Hl}{n:Nat}{hold:Int}(hb:heldB h n hold=true):0<=h.gone/\(h.st≠4->h.gone=0):=by
 simp only[heldB,Bool.and_eq_true,Bool.or_eq_true,decide_eq_true_eq] at hb
 have h1:=hb.1.2.2
 simp only[inB,Bool.and_eq_true,decide_eq_true_eq] at h1
 refine⟨h1.1,fun h4=>?_⟩
 rcases hb.2.1 with h5|h5
 ·
  exact absurd h5 h4
 ·
  exact h5.2
theorem keepN_st {p:Pl}{f:Fm}(h:frameB p f=true) {i:Nat}(hi:i<p.ny) (j:Nat):keepN (stS p f i) j=(decide ((f.Y i).st≠0)&&decide ((f.Y i).gone<=(j:Int))):=by
 obtain⟨hb,hst⟩:=frame_st h hi
 obtain⟨hg0,hg⟩:=held_gone hb
 obtain⟨_,hc⟩:=stateF_cases hst
 generalize stS p f i=s at hc⊢
 rcases hc with⟨e,rfl⟩|⟨e,rfl⟩|⟨e,rfl⟩|⟨e,rfl,_⟩|⟨e,rfl,_⟩
 ·
  simp[keepN,e]
 ·
  have :=hg (by omega)
  simp[keepN,e,this]
 ·
  have :=hg (by omega)
  simp[keepN,e,this]
 ·
  have :=hg (by omega)
  simp[keepN,e,this]
 ·
  simp only[keepN,e]
  have :((f.Y i).gone.toNat<=j)=((f.Y i).gone<=(j:Int)):=by
   apply propext
   omega
  simp[this]
theorem way_one {p:Pl}{y:Wy}(h:wayF p y=true) {i j:Nat}(hi:i<y.ns) (hj:j<y.ns) (e:y.S i=y.S j):i=j:=by
 have key:∀a b,a<y.ns->b<a->y.S b≠y.S a:=fun a b ha hb=>by
  simp only[wayF,Bool.and_eq_true,decide_eq_true_eq] at h
  have h1:=h.1.1.1.1.1.1.2
  simp only[listF,Bool.and_eq_true] at h1
  have h2:=allB_iff.1 h1.1 a ha
  simp only[elF,Bool.and_eq_true] at h2
  have h3:=allB_iff.1 h2.2 b hb
  simpa using h3
 rcases Nat.lt_trichotomy i j with c|c|c
 ·
  exact absurd e (key j i hj c)
 ·
  exact c
 ·
  exact absurd e.symm (key i j hi c)
theorem firstB_spec {q:Nat->Bool}:∀ {n k:Nat},firstB q n=some k->k<n/\q k=true:=by
 intro n k h
 by_cases hx:∃i,i<n/\q i=true
 ·
  obtain⟨i,hi,hq⟩:=hx
  have :∃i,(i<n/\q i=true)/\∀m,m<i->q m=false:=by
   induction i using Nat.strongRecOn with
   |_ i ih=>
    by_cases c:∃m,m<i/\q m=true
    ·
     obtain⟨m,hm,hqm⟩:=c
     exact ih m hm (by omega) hqm
    ·
     exact⟨i,⟨hi,hq⟩,fun m hm=>by
      cases hqm:q m with
      |false=>rfl
      |true=>exact absurd ⟨m,hm,hqm⟩ c⟩
  obtain⟨i,⟨hi,hq⟩,hm⟩:=this
  have h2:=firstB_hit hm hi hq
  rw[h2] at h
  cases h
  exact⟨hi,hq⟩
 ·
  have h2:firstB q n=none:=firstB_none fun i hi=>by
   cases hqi:q i with
   |false=>rfl
   |true=>exact absurd ⟨i,hi,hqi⟩ hx
  rw[h2] at h
  cases h
theorem keeps_holds {p:Pl}{f:Fm}(h:frameB p f=true) {i:Nat}(hi:i<p.ny) (x:Int):keepsB p (stS p f) i x=holdsB p f i x:=by
 have hw:=(frame_in h).1.way i hi
 unfold keepsB holdsB
 cases hx:idxF (p.Y i).S (p.Y i).ns x with
 |none=>
  have hn:anyB (fun j=>decide ((p.Y i).S j=x)&&decide ((f.Y i).gone<=(j:Int))) (p.Y i).ns=false:=anyB_no fun j hj=>by
   rw[firstB_all hx j hj,Bool.false_and]
  rw[hn,Bool.and_false]
 |some j=>
  obtain⟨hj,hq⟩:=firstB_spec hx
  show keepN (stS p f i) j=_
  rw[keepN_st h hi]
  congr 1
  cases hd:decide ((f.Y i).gone<=(j:Int)) with
  |true=>exact(anyB_yes hj (by rw[hq,hd];rfl)).symm
  |false=>
   refine(anyB_no fun m hm=>?_).symm
   cases hm2:decide ((p.Y i).S m=x) with
   |false=>rfl
   |true=>
    have e1:(p.Y i).S m=x:=by simpa using hm2
    have e2:(p.Y i).S j=x:=by simpa using hq
    rw[way_one hw hm hj (e1.trans e2.symm),hd]
    rfl
end Go.Proofs.YtkeilejbelblcaaGreatDoor
namespace Go.Proofs.YtkeilejbelblcaaGreatDoor
open Go.RowKit Go.Lib
set_option maxRecDepth 100000 in
set_option maxHeartbeats 4000000 in
theorem keeps45 (p:Pl) (wb yb bb:Nat) (lo rr:Nat->Nat) (oa:Option Addr) (no oc:Nat) (pa:Option Addr) (np pc:Nat) (ia:Option Addr) (ic:Nat) (S:Nat->WS) (N:Nat->Nat) (k:Nat) (x:Int) (w:World) (hk:k<p.ny) (hs:p.small) (hP:PlOwn 0 w p wb yb bb lo rr) (h:WlAt w ia p.ny N S):
  Calls Tryz.prog 148 #[.agg #[.int .i64 p.sec,.slice (some (ad wb 0)) p.nw p.nw,.slice (some (ad yb 0)) p.ny p.ny,.slice (some (ad bb 0)) p.nb p.nb,.int .i64 p.hold,.slice oa no oc,.slice pa np pc,.slice ia p.ny ic],.int .i64 (k:Int),.int .i64 x] w fun e w'=>e=.returned (.bool (keepsB p S k x))/\Below w.heap.size w w':=by
 have hny:=hs.2.1
 have hsm:=hs.2.2.1 k hk
 obtain⟨yb2,off2,hya,_,hyl,hcy⟩:=(hP.in (Nat.le_refl 0)).wy (by omega)
 cases hya
 obtain⟨sa,sc,la,lc,fa,fc,oo,oc2,ma,mc,x0,_,_,_,_,hy⟩:=hcy k hk
 rw[Nat.zero_add] at x0
 obtain⟨b,off,rfl,hb,hc⟩:=h (by omega)
 obtain⟨v,c0,hv⟩:=hc k hk
 have HV:Hid (WsV w (N k) (S k) v):=hv
 have HY:Hid (VsAt 1 0 w sa (p.Y k).ns (oneF (p.Y k).S)):=hy.s
 have hns:(p.Y k).ns<=1048576:=by have :=hsm.1;omega
 clear hcy hy hP hc h hv hsm
 have hk0:(0:Int)<=(k:Int):=by omega
 have hkn:(k:Int)<(p.ny:Int):=by omega
 have SX:Hid (Below w.heap.size w (w.alloc (.cells (vDk p wb yb bb oa no oc pa np pc (some (ad b off)) ic) 84))/\Box (w.alloc (.cells (vDk p wb yb bb oa no oc pa np pc (some (ad b off)) ic) 84)) w.heap.size 84 (vDk p wb yb bb oa no oc pa np pc (some (ad b off)) ic)):=⟨bel1 _ _,Box.new _ _ _⟩
 go_enter Tryz.func148,Tryz.ntmps148
 go_wp2_with fail
 generalize (w.alloc (.cells (vDk p wb yb bb oa no oc pa np pc (some (ad b off)) ic) 84))=W at SX⊢
 refine(index83 sa (p.Y k).ns sc (p.Y k).S x W hns (HY.out.mono nr SX.out.1 nr)).mono ?_
 rintro e w1 ⟨rfl,hw⟩
 have hw:=hw.symm
 subst hw
 clear HY x0
 cases hid:idxF (p.Y k).S (p.Y k).ns x with
 |none=>
  have HID:Hid (idxF (p.Y k).S (p.Y k).ns x=none):=hid
  clear hid
  simp only[placeZ]
  go_wp2_with fail
  go_ret
  exact⟨by rw[keepsB,HID.out];rfl,SX.out.1⟩
 |some j=>
  have HID:Hid (idxF (p.Y k).S (p.Y k).ns x=some j):=hid
  clear hid
  simp only[placeZ]
  have hj0:(0:Int)<=(j:Int):=by omega
  cases HS:S k with
  |idle=>
   have HKN:Hid (keepsB p S k x=keepN (.idle) j):=by rw[Hid,keepsB,HID.out,HS]
   have hv:v=.iface 161 (.agg #[]):=by have :=HV.out;rw[HS] at this;exact this
   subst hv
   clear HV HS
   have d7:W.cell? (ad w.heap.size 7)=some (.slice (some (ad b off)) p.ny ic):=SX.out.2.cell 7
   have e0:=(SX.out.1.cell (p:=(ad b (off+k))) (by show b<w.heap.size;omega)).trans c0
   go_wp2_with fail
   refine(keeps174 (j:Int) _).mono ?_
   rintro e w2 ⟨he,hb2⟩
   have he2:e=.returned (.bool (keepsB p S k x)):=by rw[he,HKN.out];simp[keepN]
   have HB2:Hid (Below w.heap.size w w2):=SX.out.1.trans (hb2.mono SX.out.1.size)
   clear he hb2
   subst he2
   go_wp2_with fail
   go_ret
   exact⟨rfl,HB2.out⟩
  |set sh=>
   have HKN:Hid (keepsB p S k x=keepN (.set sh) j):=by rw[Hid,keepsB,HID.out,HS]
   have hv:v=.iface 163 (.agg #[.bool sh]):=by have :=HV.out;rw[HS] at this;exact this
   subst hv
   clear HV HS
   have d7:W.cell? (ad w.heap.size 7)=some (.slice (some (ad b off)) p.ny ic):=SX.out.2.cell 7
   have e0:=(SX.out.1.cell (p:=(ad b (off+k))) (by show b<w.heap.size;omega)).trans c0
   go_wp2_with fail
   refine(keeps177 sh (j:Int) _).mono ?_
   rintro e w2 ⟨he,hb2⟩
   have he2:e=.returned (.bool (keepsB p S k x)):=by rw[he,HKN.out];simp[keepN]
   have HB2:Hid (Below w.heap.size w w2):=SX.out.1.trans (hb2.mono SX.out.1.size)
   clear he hb2
   subst he2
   go_wp2_with fail
   go_ret
   exact⟨rfl,HB2.out⟩
  |clear=>
   have HKN:Hid (keepsB p S k x=keepN (.clear) j):=by rw[Hid,keepsB,HID.out,HS]
   have hv:v=.iface 164 (.agg #[]):=by have :=HV.out;rw[HS] at this;exact this
   subst hv
   clear HV HS
   have d7:W.cell? (ad w.heap.size 7)=some (.slice (some (ad b off)) p.ny ic):=SX.out.2.cell 7
   have e0:=(SX.out.1.cell (p:=(ad b (off+k))) (by show b<w.heap.size;omega)).trans c0
   go_wp2_with fail
   refine(keeps185 (j:Int) _).mono ?_
   rintro e w2 ⟨he,hb2⟩
   have he2:e=.returned (.bool (keepsB p S k x)):=by rw[he,HKN.out];simp[keepN]
   have HB2:Hid (Below w.heap.size w w2):=SX.out.1.trans (hb2.mono SX.out.1.size)
   clear he hb2
   subst he2
   go_wp2_with fail
   go_ret
   exact⟨rfl,HB2.out⟩
  |taking t=>
   have HKN:Hid (keepsB p S k x=keepN (.taking t) j):=by rw[Hid,keepsB,HID.out,HS]
   have hv:v=.iface 166 (.agg #[.int .i64 t]):=by have :=HV.out;rw[HS] at this;exact this
   subst hv
   clear HV HS
   have d7:W.cell? (ad w.heap.size 7)=some (.slice (some (ad b off)) p.ny ic):=SX.out.2.cell 7
   have e0:=(SX.out.1.cell (p:=(ad b (off+k))) (by show b<w.heap.size;omega)).trans c0
   go_wp2_with fail
   refine(keeps188 t (j:Int) _).mono ?_
   rintro e w2 ⟨he,hb2⟩
   have he2:e=.returned (.bool (keepsB p S k x)):=by rw[he,HKN.out];simp[keepN]
   have HB2:Hid (Below w.heap.size w w2):=SX.out.1.trans (hb2.mono SX.out.1.size)
   clear he hb2
   subst he2
   go_wp2_with fail
   go_ret
   exact⟨rfl,HB2.out⟩
  |used g B sh=>
   have HKN:Hid (keepsB p S k x=keepN (.used g B sh) j):=by rw[Hid,keepsB,HID.out,HS]
   obtain⟨rb,rc,cur,hv,_,_⟩:∃rb rc cur,v=.iface 169 (.agg #[.int .i64 (g:Int),.slice (some (ad rb 0)) (N k) rc,.bool sh])/\Box w rb 4 cur/\VsAt 1 0 w (some (ad rb 0)) (N k) (boolF B):=by have :=HV.out;rw[HS] at this;exact this
   subst hv
   clear HV HS
   have d7:W.cell? (ad w.heap.size 7)=some (.slice (some (ad b off)) p.ny ic):=SX.out.2.cell 7
   have e0:=(SX.out.1.cell (p:=(ad b (off+k))) (by show b<w.heap.size;omega)).trans c0
   go_wp2_with fail
   refine(keeps191 g (some (ad rb 0)) (N k) rc sh (j:Int) _).mono ?_
   rintro e w2 ⟨he,hb2⟩
   have he2:e=.returned (.bool (keepsB p S k x)):=by rw[he,HKN.out];simp[keepN]
   have HB2:Hid (Below w.heap.size w w2):=SX.out.1.trans (hb2.mono SX.out.1.size)
   clear he hb2
   subst he2
   go_wp2_with fail
   go_ret
   exact⟨rfl,HB2.out⟩
end Go.Proofs.YtkeilejbelblcaaGreatDoor
