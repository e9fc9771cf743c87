import Derived.Test.YtlgapgajgpilgaaGreatDoorZbv
import Derived.Test.YtlgapgajgpilgaaGreatDoorZby
import Derived.Test.YtlgapgajgpilgaaGreatDoorZcd
import Derived.Test.YtlgapgajgpilgaaGreatDoorZbz
import Derived.Test.YtlgapgajgpilgaaGreatDoorZbo
import Derived.Test.YtlgapgajgpilgaaGreatDoorZbc
import Derived.Test.YtlgapgajgpilgaaGreatDoorZbg
import Derived.Test.YtlgapgajgpilgaaGreatDoorZac
import Derived.Test.YtlgapgajgpilgaaGreatDoorZar
namespace Go.Proofs.YtlgapgajgpilgaaGreatDoor
open Go.RowKit Go.Lib
theorem FmOwn.fr {B : Nat} {w w' : World} {f : Fm} {ov pv hv : Value} {r : Nat → Nat} {X : Nat → Prop} (h : FmOwn B w f ov pv hv r) (hf : Fr X w w') (h1 : ∀ g, ov.ownBlock = some g → ¬ X g) (h2 : ∀ g, pv.ownBlock = some g → ¬ X g) (h3 : ∀ g, hv.ownBlock = some g → ¬ X g) (h4 : ∀ i, i < f.nh → ¬ X (r i)) : FmOwn B w' f ov pv hv r :=
 ⟨h.o.fr hf h1, h.p.fr hf h2, ⟨h.h.own.fr hf h3, fun i hi => ⟨(h.h.row i hi).1.fr hf fun g e => by have e := own_block e; subst e; exact h4 i hi, (h.h.row i hi).2⟩, h.h.inj⟩, h.ne⟩
theorem FmOwn.fr_ge {B : Nat} {w w' : World} {f : Fm} {ov pv hv : Value} {r : Nat → Nat} {X : Nat → Prop} (h : FmOwn B w f ov pv hv r) (hf : Fr X w w') (hX : ∀ b, X b → b < B) : FmOwn B w' f ov pv hv r :=
 h.fr hf (fun g e x => by have := (h.o.lt e).1; have := hX g x; omega) (fun g e x => by have := (h.p.lt e).1; have := hX g x; omega) (fun g e x => by have := (h.h.own.lt e).1; have := hX g x; omega) (fun i hi x => by have := (h.h.row i hi).2; have := hX _ x; omega)
def St3 (B : Nat) (W : World) (n1 n2 n3 : Nat) (D1 D2 D3 : Nat → Int) (a1 : Option Addr) (c1 : Nat) (a2 : Option Addr) (c2 : Nat) (a3 : Option Addr) (c3 : Nat) : Prop :=
 VOwn B 3 1 W (.slice a1 n1 c1) n1 (oneF D1) ∧ VOwn B 3 1 W (.slice a2 n2 c2) n2 (oneF D2) ∧ VOwn B 3 1 W (.slice a3 n3 c3) n3 (oneF D3)
theorem St3.mono {B B' : Nat} {W W' : World} {n1 n2 n3 : Nat} {D1 D2 D3 : Nat → Int} {a1 a2 a3 : Option Addr} {c1 c2 c3 M : Nat} (h : St3 B W n1 n2 n3 D1 D2 D3 a1 c1 a2 c2 a3 c3) (hB : B' ≤ B) (hb : Below M W W') (hM : W.heap.size ≤ M) : St3 B' W' n1 n2 n3 D1 D2 D3 a1 c1 a2 c2 a3 c3 :=
 ⟨h.1.mono hB hb hM, h.2.1.mono hB hb hM, h.2.2.mono hB hb hM⟩
theorem St3.fr {B : Nat} {W W' : World} {n1 n2 n3 : Nat} {D1 D2 D3 : Nat → Int} {a1 a2 a3 : Option Addr} {c1 c2 c3 : Nat} {X : Nat → Prop} (h : St3 B W n1 n2 n3 D1 D2 D3 a1 c1 a2 c2 a3 c3) (hf : Fr X W W') (hx : ∀ b, B ≤ b → b < W.heap.size → ¬ X b) : St3 B W' n1 n2 n3 D1 D2 D3 a1 c1 a2 c2 a3 c3 :=
 ⟨h.1.fr hf fun g e => hx g (h.1.lt e).1 (h.1.lt e).2, h.2.1.fr hf fun g e => hx g (h.2.1.lt e).1 (h.2.1.lt e).2, h.2.2.fr hf fun g e => hx g (h.2.2.lt e).1 (h.2.2.lt e).2⟩
theorem St3.by_ {B : Nat} {W W' : World} {n1 n2 n3 : Nat} {D1 D2 D3 : Nat → Int} {a1 a2 a3 : Option Addr} {c1 c2 c3 : Nat} (h : St3 B W n1 n2 n3 D1 D2 D3 a1 c1 a2 c2 a3 c3) (hk : ∀ b cur, Box W b 3 cur → W'.heap[b]? = W.heap[b]?) : St3 B W' n1 n2 n3 D1 D2 D3 a1 c1 a2 c2 a3 c3 :=
 ⟨h.1.by_ hk, h.2.1.by_ hk, h.2.2.by_ hk⟩
theorem fin4 {V0 W : World} {tq n1 n2 n3 c1 c2 c3 : Nat} {a1 a2 a3 : Option Addr} {D1 D2 D3 : Nat → Int} (hB : Below V0.heap.size V0 W) (ht : V0.heap.size ≤ tq) (hb : Box W tq 53 #[.slice none 0 0, .slice none 0 0, .slice none 0 0]) (h : St3 V0.heap.size W n1 n2 n3 D1 D2 D3 a1 c1 a2 c2 a3 c3) :
  Below V0.heap.size V0 (((W.setCell ⟨tq, 0, none⟩ (.slice a1 n1 c1)).setCell ⟨tq, 1, none⟩ (.slice a2 n2 c2)).setCell ⟨tq, 2, none⟩ (.slice a3 n3 c3)) ∧ V0.heap.size ≤ tq ∧ Box (((W.setCell ⟨tq, 0, none⟩ (.slice a1 n1 c1)).setCell ⟨tq, 1, none⟩ (.slice a2 n2 c2)).setCell ⟨tq, 2, none⟩ (.slice a3 n3 c3)) tq 53 #[.slice a1 n1 c1, .slice a2 n2 c2, .slice a3 n3 c3] ∧ St3 V0.heap.size (((W.setCell ⟨tq, 0, none⟩ (.slice a1 n1 c1)).setCell ⟨tq, 1, none⟩ (.slice a2 n2 c2)).setCell ⟨tq, 2, none⟩ (.slice a3 n3 c3)) n1 n2 n3 D1 D2 D3 a1 c1 a2 c2 a3 c3 := by
 have k1 := hb.set 0 (.slice a1 n1 c1)
 have k2 := k1.set 1 (.slice a2 n2 c2)
 have k3 := k2.set 2 (.slice a3 n3 c3)
 exact ⟨((hB.setCell ht _).setCell ht _).setCell ht _, ht, k3, ((h.1.set hb (by decide) _ _).set k1 (by decide) _ _).set k2 (by decide) _ _, ((h.2.1.set hb (by decide) _ _).set k1 (by decide) _ _).set k2 (by decide) _ _, ((h.2.2.set hb (by decide) _ _).set k1 (by decide) _ _).set k2 (by decide) _ _⟩
theorem bl1_le (p : Pl) (f : Fm) (x : Int) : bl1 p f x ≤ p.ny := by
 unfold bl1
 split
 ·
  exact selN_le _ _
 ·
  exact Nat.zero_le _
theorem bl2_le (p : Pl) (f : Fm) (x : Int) : bl2 p f x ≤ f.no := by
 unfold bl2
 split
 ·
  exact selN_le _ _
 ·
  exact Nat.zero_le _
theorem bl3_le (p : Pl) (f : Fm) (x : Int) : bl3 p f x ≤ p.nw := by
 unfold bl3
 split
 ·
  exact selN_le _ _
 ·
  exact Nat.zero_le _
set_option maxRecDepth 100000 in
set_option maxHeartbeats 64000000 in
theorem law6 (p : Pl) (f : Fm) (wa ya ba : Option Addr) (wk yc bc : Nat) (oa pa ha : Option Addr) (oc pc hc : Nat) (et t4 t5 : TypeId) (ev v4 v5 : Value) (kk : Int) (w : World) (hpf : p.fits) (hff : f.fits) (hP : PlIn 0 w p wa ya ba) (hF : FmIn 0 w f oa pa ha) (he : w.cell? ⟨0, 0, none⟩ = some (.iface et ev)) (h4 : w.cell? ⟨4, 0, none⟩ = some (.iface t4 v4)) (h5 : w.cell? ⟨5, 0, none⟩ = some (.iface t5 v5)) (h0 : 5 < w.heap.size) :
  Calls Tryz.prog 6 #[.agg #[.int .i64 p.sec, .slice wa p.nw wk, .slice ya p.ny yc, .slice ba p.nb bc, .int .i64 p.hold], .agg #[.bool f.ok, .slice oa f.no oc, .slice pa f.np pc, .slice ha f.nh hc], .int .i64 kk] w fun e w' => e = .returned (.bool true) ∧ Below w.heap.size w w' := by
 have H : Hid (PlIn 0 w p wa ya ba ∧ FmIn 0 w f oa pa ha ∧ w.cell? ⟨0, 0, none⟩ = some (.iface et ev) ∧ w.cell? ⟨4, 0, none⟩ = some (.iface t4 v4) ∧ w.cell? ⟨5, 0, none⟩ = some (.iface t5 v5) ∧ 5 < w.heap.size) := ⟨hP, hF, he, h4, h5, h0⟩
 have S0 : Hid (Below w.heap.size w ((w.alloc (.cells #[.int .i64 p.sec, .slice wa p.nw wk, .slice ya p.ny yc, .slice ba p.nb bc, .int .i64 p.hold] 26)).alloc (.cells #[.bool f.ok, .slice oa f.no oc, .slice pa f.np pc, .slice ha f.nh hc] 31)) ∧ Box ((w.alloc (.cells #[.int .i64 p.sec, .slice wa p.nw wk, .slice ya p.ny yc, .slice ba p.nb bc, .int .i64 p.hold] 26)).alloc (.cells #[.bool f.ok, .slice oa f.no oc, .slice pa f.np pc, .slice ha f.nh hc] 31)) w.heap.size 26 #[.int .i64 p.sec, .slice wa p.nw wk, .slice ya p.ny yc, .slice ba p.nb bc, .int .i64 p.hold] ∧ Box ((w.alloc (.cells #[.int .i64 p.sec, .slice wa p.nw wk, .slice ya p.ny yc, .slice ba p.nb bc, .int .i64 p.hold] 26)).alloc (.cells #[.bool f.ok, .slice oa f.no oc, .slice pa f.np pc, .slice ha f.nh hc] 31)) (w.heap.size + 1) 31 #[.bool f.ok, .slice oa f.no oc, .slice pa f.np pc, .slice ha f.nh hc]) := ⟨bel2 _ _ _, (Box.new _ _ _).alloc _, by have := Box.new (w.alloc (.cells #[.int .i64 p.sec, .slice wa p.nw wk, .slice ya p.ny yc, .slice ba p.nb bc, .int .i64 p.hold] 26)) 31 #[.bool f.ok, .slice oa f.no oc, .slice pa f.np pc, .slice ha f.nh hc]; simpa using this⟩
 clear hP hF he h4 h5 h0
 go_enter Tryz.func6, Tryz.ntmps6
 go_wp2_with fail
 generalize ((w.alloc (.cells #[.int .i64 p.sec, .slice wa p.nw wk, .slice ya p.ny yc, .slice ba p.nb bc, .int .i64 p.hold] 26)).alloc (.cells #[.bool f.ok, .slice oa f.no oc, .slice pa f.np pc, .slice ha f.nh hc] 31)) = V0 at S0 ⊢
 refine (szPlan p wa ya ba wk yc bc 1048576 _ hpf (by omega) (by omega) (H.out.1.mono nr S0.out.1 nr)).mono ?_
 rintro e w1 ⟨r, rfl, hr1, hr2, hb1⟩
 have S1 : Hid (Below w.heap.size w w1 ∧ Box w1 w.heap.size 26 #[.int .i64 p.sec, .slice wa p.nw wk, .slice ya p.ny yc, .slice ba p.nb bc, .int .i64 p.hold] ∧ Box w1 (w.heap.size + 1) 31 #[.bool f.ok, .slice oa f.no oc, .slice pa f.np pc, .slice ha f.nh hc]) := ⟨S0.out.1.trans (hb1.mono S0.out.1.size), S0.out.2.1.mono hb1 nr, S0.out.2.2.mono hb1 nr⟩
 clear hb1 S0
 by_cases hneg : r < 0
 ·
  clear hr2
  go_wp2_with fail
  go_ret
  exact ⟨rfl, S1.out.1⟩
 have HS : Hid p.small := hr2 (by omega)
 clear hr2
 have b0 := S1.out.2.2.cel 0
 have b1 := S1.out.2.2.cel 1
 have b2 := S1.out.2.2.cel 2
 have b3 := S1.out.2.2.cel 3
 go_wp2_with fail
 clear b0 b1 b2 b3
 refine (szFrame f oa pa ha oc pc hc r _ hff (by omega) (by omega) (H.out.2.1.mono nr S1.out.1 nr)).mono ?_
 rintro e w2 ⟨r2, rfl, hr3, hr4, hb2⟩
 have S2 : Hid (Below w.heap.size w w2 ∧ Box w2 w.heap.size 26 #[.int .i64 p.sec, .slice wa p.nw wk, .slice ya p.ny yc, .slice ba p.nb bc, .int .i64 p.hold] ∧ Box w2 (w.heap.size + 1) 31 #[.bool f.ok, .slice oa f.no oc, .slice pa f.np pc, .slice ha f.nh hc]) := ⟨S1.out.1.trans (hb2.mono S1.out.1.size), S1.out.2.1.mono hb2 nr, S1.out.2.2.mono hb2 nr⟩
 clear hb2 S1
 by_cases hneg2 : r2 < 0
 ·
  clear hr4
  go_wp2_with fail
  go_ret
  exact ⟨rfl, S2.out.1⟩
 have HFS : Hid f.small := hr4 (by omega)
 clear hr4
 have HC : Hid (∀ W, Below w2.heap.size w2 W → Below w.heap.size w W ∧ Box W w.heap.size 26 #[.int .i64 p.sec, .slice wa p.nw wk, .slice ya p.ny yc, .slice ba p.nb bc, .int .i64 p.hold] ∧ Box W (w.heap.size + 1) 31 #[.bool f.ok, .slice oa f.no oc, .slice pa f.np pc, .slice ha f.nh hc]) := fun W hB => ⟨S2.out.1.trans (hB.mono S2.out.1.size), S2.out.2.1.mono hB nr, S2.out.2.2.mono hB nr⟩
 have HTP : Hid (∀ W, Below w2.heap.size w2 W → Calls Tryz.prog 10 #[.agg #[.int .i64 p.sec, .slice wa p.nw wk, .slice ya p.ny yc, .slice ba p.nb bc, .int .i64 p.hold]] W fun e w' => ∃ wb yb bb lo r, e = .returned (.agg #[.int .i64 p.sec, .slice (some ⟨wb, 0, none⟩) p.nw p.nw, .slice (some ⟨yb, 0, none⟩) p.ny p.ny, .slice (some ⟨bb, 0, none⟩) p.nb p.nb, .int .i64 p.hold]) ∧ PlOwn W.heap.size w' p wb yb bb lo r ∧ Below W.heap.size W w') := fun W hB => toPlan p wa ya ba wk yc bc W HS.out (H.out.1.mono nr (HC.out W hB).1 nr)
 have HTF : Hid (∀ W, Below w2.heap.size w2 W → Calls Tryz.prog 11 #[.agg #[.bool f.ok, .slice oa f.no oc, .slice pa f.np pc, .slice ha f.nh hc]] W fun e w' => TfR W f e w') := fun W hB => toFrame10 f oa pa ha oc pc hc W HFS.out (H.out.2.1.mono nr (HC.out W hB).1 nr)
 have HEL : Hid (∀ W, Below w2.heap.size w2 W → W.cell? ⟨0, 0, none⟩ = some (.iface et ev) ∧ W.cell? ⟨4, 0, none⟩ = some (.iface t4 v4) ∧ W.cell? ⟨5, 0, none⟩ = some (.iface t5 v5) ∧ 5 < W.heap.size) := fun W hB => by
  obtain ⟨_, _, q1, q2, q3, q4⟩ := H.out
  exact ⟨cell_keep (HC.out W hB).1 (by omega) q1, cell_keep (HC.out W hB).1 (by omega) q2, cell_keep (HC.out W hB).1 (by omega) q3, Nat.lt_of_lt_of_le q4 (HC.out W hB).1.size⟩
 obtain ⟨n1, HN1⟩ : ∃ n, Hid (bl1 p f kk = n) := ⟨_, rfl⟩
 obtain ⟨n2, HN2⟩ : ∃ n, Hid (bl2 p f kk = n) := ⟨_, rfl⟩
 obtain ⟨n3, HN3⟩ : ∃ n, Hid (bl3 p f kk = n) := ⟨_, rfl⟩
 obtain ⟨D1, HD1⟩ : ∃ D, Hid (selD (fun k => agB p f kk.toNat k) p.ny = D) := ⟨_, rfl⟩
 obtain ⟨D2, HD2⟩ : ∃ D, Hid (selD (scQ p f.O kk.toNat) f.no = D) := ⟨_, rfl⟩
 obtain ⟨D3, HD3⟩ : ∃ D, Hid (selD (swB p f kk.toNat) p.nw = D) := ⟨_, rfl⟩
 have hm1 : n1 ≤ 1048576 := by have := bl1_le p f kk; have := HS.out.2.1; have := HN1.out; omega
 have hm2 : n2 ≤ 1048576 := by have := bl2_le p f kk; have := HFS.out.1; have := HN2.out; omega
 have hm3 : n3 ≤ 1048576 := by have := bl3_le p f kk; have := HS.out.1; have := HN3.out; omega
 have HQ : Hid (∀ W, Below w2.heap.size w2 W → Below w2.heap.size w2 W) := fun _ h => h
 go_upto_region 8 with fail
 go_cut [8] from 16 (fun s8 wx => ∃ (tq : Nat) (s1 : Option Addr) (sc1 : Nat) (s2 : Option Addr) (sc2 : Nat) (s3 : Option Addr) (sc3 : Nat), s8 = .pointer (some ⟨tq, 0, none⟩) ∧ Hid (Below w2.heap.size w2 wx ∧ w2.heap.size ≤ tq ∧ Box wx tq 53 #[.slice s1 n1 sc1, .slice s2 n2 sc2, .slice s3 n3 sc3] ∧ St3 w2.heap.size wx n1 n2 n3 D1 D2 D3 s1 sc1 s2 sc2 s3 sc3))
 case first =>
  have HB0 : Hid (Below w2.heap.size w2 w2.drew) := (Below.refl _ _).drew
  have a0 : w2.cell? ⟨w.heap.size, 0, none⟩ = some (.int .i64 p.sec) := (HC.out _ (HQ.out _ (Below.refl _ w2))).2.1.cell 0
  have a1 : w2.cell? ⟨w.heap.size, 1, none⟩ = some (.slice wa p.nw wk) := (HC.out _ (HQ.out _ (Below.refl _ w2))).2.1.cell 1
  have a2 : w2.cell? ⟨w.heap.size, 2, none⟩ = some (.slice ya p.ny yc) := (HC.out _ (HQ.out _ (Below.refl _ w2))).2.1.cell 2
  have a3 : w2.cell? ⟨w.heap.size, 3, none⟩ = some (.slice ba p.nb bc) := (HC.out _ (HQ.out _ (Below.refl _ w2))).2.1.cell 3
  have a4 : w2.cell? ⟨w.heap.size, 4, none⟩ = some (.int .i64 p.hold) := (HC.out _ (HQ.out _ (Below.refl _ w2))).2.1.cell 4
  have b0 : w2.cell? ⟨(w.heap.size + 1), 0, none⟩ = some (.bool f.ok) := (HC.out _ (HQ.out _ (Below.refl _ w2))).2.2.cell 0
  have b1 : w2.cell? ⟨(w.heap.size + 1), 1, none⟩ = some (.slice oa f.no oc) := (HC.out _ (HQ.out _ (Below.refl _ w2))).2.2.cell 1
  have b2 : w2.cell? ⟨(w.heap.size + 1), 2, none⟩ = some (.slice pa f.np pc) := (HC.out _ (HQ.out _ (Below.refl _ w2))).2.2.cell 2
  have b3 : w2.cell? ⟨(w.heap.size + 1), 3, none⟩ = some (.slice ha f.nh hc) := (HC.out _ (HQ.out _ (Below.refl _ w2))).2.2.cell 3
  go_wp2_with fail
  refine wp_region_held_drew (S := (fun wx : World => wx.cell? ⟨w.heap.size, 0, none⟩ = some (.int .i64 p.sec) ∧ wx.cell? ⟨w.heap.size, 1, none⟩ = some (.slice wa p.nw wk) ∧ wx.cell? ⟨w.heap.size, 2, none⟩ = some (.slice ya p.ny yc) ∧ wx.cell? ⟨w.heap.size, 3, none⟩ = some (.slice ba p.nb bc) ∧ wx.cell? ⟨w.heap.size, 4, none⟩ = some (.int .i64 p.hold) ∧ wx.cell? ⟨(w.heap.size + 1), 0, none⟩ = some (.bool f.ok) ∧ wx.cell? ⟨(w.heap.size + 1), 1, none⟩ = some (.slice oa f.no oc) ∧ wx.cell? ⟨(w.heap.size + 1), 2, none⟩ = some (.slice pa f.np pc) ∧ wx.cell? ⟨(w.heap.size + 1), 3, none⟩ = some (.slice ha f.nh hc))) (by kernel_rfl) ?_ (fun hHeld => ?_)
  ·
   exact ⟨a0, a1, a2, a3, a4, b0, b1, b2, b3⟩
  clear a0 a1 a2 a3 a4 b0 b1 b2 b3
  generalize w2.drew = VD at HB0 hHeld ⊢
  refine tk 0 ?_
  refine tk 2 ?_
  refine tk 4 ?_
  refine ready2_lit (i := 1) (j := 6) (by kernel_rfl) rfl rfl (fun K hK => ?_) (fun K hK => ?_)
  ·
   go_simp
   refine (HTP.out _ (HQ.out _ HB0.out)).mono ?_
   rintro e w0x3 ⟨wbx, ybx, bbx, lox, rrx, rfl, ho, hb⟩
   have HP1 : Hid (PlOwn 0 w0x3 p wbx ybx bbx lox rrx) := ho.mono (Nat.zero_le _) (Below.refl _ _) nr
   have HB1 : Hid (Below w2.heap.size w2 w0x3) := HB0.out.trans (hb.mono HB0.out.size)
   clear hb
   go_wp2_with fail
   refine hK.out _ _ ?_ (fun hHeldX => ?_)
   ·
    exact ⟨(HC.out _ (HQ.out _ HB1.out)).2.1.cell 0, (HC.out _ (HQ.out _ HB1.out)).2.1.cell 1, (HC.out _ (HQ.out _ HB1.out)).2.1.cell 2, (HC.out _ (HQ.out _ HB1.out)).2.1.cell 3, (HC.out _ (HQ.out _ HB1.out)).2.1.cell 4, (HC.out _ (HQ.out _ HB1.out)).2.2.cell 0, (HC.out _ (HQ.out _ HB1.out)).2.2.cell 1, (HC.out _ (HQ.out _ HB1.out)).2.2.cell 2, (HC.out _ (HQ.out _ HB1.out)).2.2.cell 3⟩
   clear hK K
   refine ready2_lit (i := 3) (j := 6) (by kernel_rfl) rfl rfl (fun K hK => ?_) (fun K hK => ?_)
   ·
    go_simp
    refine (HTF.out _ (HQ.out _ HB1.out)).mono ?_
    rintro e w1x4 ⟨obx, pbx, hbx, rx, rfl, hf, hb⟩
    have HP2 : Hid (PlOwn 0 w1x4 p wbx ybx bbx lox rrx) := HP1.out.mono nr hb nr
    have HF2 : Hid (FmOwn 0 w1x4 f (.slice (some ⟨obx, 0, none⟩) f.no f.no) (.slice (some ⟨pbx, 0, none⟩) f.np f.np) (.slice (some ⟨hbx, 0, none⟩) f.nh f.nh) rx) := hf.mono (Nat.zero_le _) (Below.refl _ _) nr
    have HB2 : Hid (Below w2.heap.size w2 w1x4) := HB1.out.trans (hb.mono HB1.out.size)
    clear hb
    go_wp2_with fail
    refine hK.out _ _ ?_ (fun hHeldX => ?_)
    ·
     exact ⟨(HC.out _ (HQ.out _ HB2.out)).2.1.cell 0, (HC.out _ (HQ.out _ HB2.out)).2.1.cell 1, (HC.out _ (HQ.out _ HB2.out)).2.1.cell 2, (HC.out _ (HQ.out _ HB2.out)).2.1.cell 3, (HC.out _ (HQ.out _ HB2.out)).2.1.cell 4, (HC.out _ (HQ.out _ HB2.out)).2.2.cell 0, (HC.out _ (HQ.out _ HB2.out)).2.2.cell 1, (HC.out _ (HQ.out _ HB2.out)).2.2.cell 2, (HC.out _ (HQ.out _ HB2.out)).2.2.cell 3⟩
    clear hK K
    refine ready2_lit (i := 5) (j := 6) (by kernel_rfl) rfl rfl (fun K hK => ?_) (fun K hK => ?_)
    ·
     go_simp
     refine (blocked24 p f (some ⟨wbx, 0, none⟩) (some ⟨ybx, 0, none⟩) (some ⟨bbx, 0, none⟩) p.nw p.ny p.nb obx 0 pbx 0 (some ⟨hbx, 0, none⟩) f.no f.np f.nh kk w1x4 HS.out HFS.out (HP2.out.in (Nat.zero_le _)) (HF2.out.in (Nat.zero_le _))).mono ?_
     rintro e w2x5 ⟨s1, sc1, s2, sc2, s3, sc3, he, h1, h2, h3, hb⟩
     rw [HN1.out, HN2.out, HN3.out] at he
     rw [HN1.out, HD1.out] at h1
     rw [HN2.out, HD2.out] at h2
     rw [HN3.out, HD3.out] at h3
     subst he
     have HO3 : Hid (St3 w2.heap.size w2x5 n1 n2 n3 D1 D2 D3 s1 sc1 s2 sc2 s3 sc3) := ⟨h1.keep HB2.out.size fun _ _ => rfl, h2.keep HB2.out.size fun _ _ => rfl, h3.keep HB2.out.size fun _ _ => rfl⟩
     have HB3 : Hid (Below w2.heap.size w2 w2x5) := HB2.out.trans (hb.mono HB2.out.size)
     clear hb
     go_wp2_with fail
     refine hK.out _ _ ?_ (fun hHeldX => ?_)
     ·
      exact ⟨(HC.out _ (HQ.out _ HB3.out)).2.1.cell 0, (HC.out _ (HQ.out _ HB3.out)).2.1.cell 1, (HC.out _ (HQ.out _ HB3.out)).2.1.cell 2, (HC.out _ (HQ.out _ HB3.out)).2.1.cell 3, (HC.out _ (HQ.out _ HB3.out)).2.1.cell 4, (HC.out _ (HQ.out _ HB3.out)).2.2.cell 0, (HC.out _ (HQ.out _ HB3.out)).2.2.cell 1, (HC.out _ (HQ.out _ HB3.out)).2.2.cell 2, (HC.out _ (HQ.out _ HB3.out)).2.2.cell 3⟩
     clear hK K
     refine rl 6 fun K hK => ?_
     have HA : Hid (Below w2.heap.size w2 (w2x5.alloc (.cells #[.slice none 0 0, .slice none 0 0, .slice none 0 0] 53)) ∧ Box (w2x5.alloc (.cells #[.slice none 0 0, .slice none 0 0, .slice none 0 0] 53)) w2x5.heap.size 53 #[.slice none 0 0, .slice none 0 0, .slice none 0 0] ∧ w2.heap.size ≤ w2x5.heap.size) := ⟨HB3.out.alloc HB3.out.size _, Box.new _ _ _, HB3.out.size⟩
     have HOA : Hid (St3 w2.heap.size (w2x5.alloc (.cells #[.slice none 0 0, .slice none 0 0, .slice none 0 0] 53)) n1 n2 n3 D1 D2 D3 s1 sc1 s2 sc2 s3 sc3) := HO3.out.mono nr (bel1 _ _) nr
     go_simp
     refine hK.out _ _ ?_ (fun hHeldX => ?_)
     ·
      exact ⟨(HC.out _ (HQ.out _ HA.out.1)).2.1.cell 0, (HC.out _ (HQ.out _ HA.out.1)).2.1.cell 1, (HC.out _ (HQ.out _ HA.out.1)).2.1.cell 2, (HC.out _ (HQ.out _ HA.out.1)).2.1.cell 3, (HC.out _ (HQ.out _ HA.out.1)).2.1.cell 4, (HC.out _ (HQ.out _ HA.out.1)).2.2.cell 0, (HC.out _ (HQ.out _ HA.out.1)).2.2.cell 1, (HC.out _ (HQ.out _ HA.out.1)).2.2.cell 2, (HC.out _ (HQ.out _ HA.out.1)).2.2.cell 3⟩
     clear hK K
     generalize w2x5.alloc (.cells #[.slice none 0 0, .slice none 0 0, .slice none 0 0] 53) = V3x6 at HA HOA ⊢
     generalize w2x5.heap.size = tq at HA ⊢
     have HTQ : Hid (w2.heap.size ≤ tq) := HA.out.2.2
     have TB3 : Hid (Box V3x6 tq 53 #[.slice none 0 0, .slice none 0 0, .slice none 0 0]) := HA.out.2.1
     clear HB3
     have HB3 : Hid (Below w2.heap.size w2 V3x6) := HA.out.1
     clear HA
     clear HO3
     have HO3 := HOA
     clear HOA
     have z0 := TB3.out.cel 0
     have z1 := TB3.out.cel 1
     have z2 := TB3.out.cel 2
     have f0 := TB3.out.free 0
     have f1 := TB3.out.free 1
     have f2 := TB3.out.free 2
     have HF : Hid (Below w2.heap.size w2 (((V3x6.setCell ⟨tq, 0, none⟩ (.slice s1 n1 sc1)).setCell ⟨tq, 1, none⟩ (.slice s2 n2 sc2)).setCell ⟨tq, 2, none⟩ (.slice s3 n3 sc3)) ∧ w2.heap.size ≤ tq ∧ Box (((V3x6.setCell ⟨tq, 0, none⟩ (.slice s1 n1 sc1)).setCell ⟨tq, 1, none⟩ (.slice s2 n2 sc2)).setCell ⟨tq, 2, none⟩ (.slice s3 n3 sc3)) tq 53 #[.slice s1 n1 sc1, .slice s2 n2 sc2, .slice s3 n3 sc3] ∧ St3 w2.heap.size (((V3x6.setCell ⟨tq, 0, none⟩ (.slice s1 n1 sc1)).setCell ⟨tq, 1, none⟩ (.slice s2 n2 sc2)).setCell ⟨tq, 2, none⟩ (.slice s3 n3 sc3)) n1 n2 n3 D1 D2 D3 s1 sc1 s2 sc2 s3 sc3) := fin4 HB3.out HTQ.out TB3.out HO3.out
     refine rl 7 fun K hK => ?_
     go_simp
     refine hK.out _ _ ?_ (fun hHeldX => ?_)
     ·
      exact ⟨(HC.out _ (HQ.out _ HF.out.1)).2.1.cell 0, (HC.out _ (HQ.out _ HF.out.1)).2.1.cell 1, (HC.out _ (HQ.out _ HF.out.1)).2.1.cell 2, (HC.out _ (HQ.out _ HF.out.1)).2.1.cell 3, (HC.out _ (HQ.out _ HF.out.1)).2.1.cell 4, (HC.out _ (HQ.out _ HF.out.1)).2.2.cell 0, (HC.out _ (HQ.out _ HF.out.1)).2.2.cell 1, (HC.out _ (HQ.out _ HF.out.1)).2.2.cell 2, (HC.out _ (HQ.out _ HF.out.1)).2.2.cell 3⟩
     clear hK K
     refine wpAnyH_done (by kernel_rfl) ?_ _
     clear z0 z1 z2 f0 f1 f2
     go_wp2_with fail
     go_meet
     case rel => exact ⟨tq, s1, sc1, s2, sc2, s3, sc3, rfl, HF⟩
    ·
     have HA : Hid (Below w2.heap.size w2 (w1x4.alloc (.cells #[.slice none 0 0, .slice none 0 0, .slice none 0 0] 53)) ∧ Box (w1x4.alloc (.cells #[.slice none 0 0, .slice none 0 0, .slice none 0 0] 53)) w1x4.heap.size 53 #[.slice none 0 0, .slice none 0 0, .slice none 0 0] ∧ w2.heap.size ≤ w1x4.heap.size) := ⟨HB2.out.alloc HB2.out.size _, Box.new _ _ _, HB2.out.size⟩
     have HPA : Hid (PlOwn 0 (w1x4.alloc (.cells #[.slice none 0 0, .slice none 0 0, .slice none 0 0] 53)) p wbx ybx bbx lox rrx) := HP2.out.mono nr (bel1 _ _) nr
     have HFA : Hid (FmOwn 0 (w1x4.alloc (.cells #[.slice none 0 0, .slice none 0 0, .slice none 0 0] 53)) f (.slice (some ⟨obx, 0, none⟩) f.no f.no) (.slice (some ⟨pbx, 0, none⟩) f.np f.np) (.slice (some ⟨hbx, 0, none⟩) f.nh f.nh) rx) := HF2.out.mono nr (bel1 _ _) nr
     go_simp
     refine hK.out _ _ ?_ (fun hHeldX => ?_)
     ·
      exact ⟨(HC.out _ (HQ.out _ HA.out.1)).2.1.cell 0, (HC.out _ (HQ.out _ HA.out.1)).2.1.cell 1, (HC.out _ (HQ.out _ HA.out.1)).2.1.cell 2, (HC.out _ (HQ.out _ HA.out.1)).2.1.cell 3, (HC.out _ (HQ.out _ HA.out.1)).2.1.cell 4, (HC.out _ (HQ.out _ HA.out.1)).2.2.cell 0, (HC.out _ (HQ.out _ HA.out.1)).2.2.cell 1, (HC.out _ (HQ.out _ HA.out.1)).2.2.cell 2, (HC.out _ (HQ.out _ HA.out.1)).2.2.cell 3⟩
     clear hK K
     generalize w1x4.alloc (.cells #[.slice none 0 0, .slice none 0 0, .slice none 0 0] 53) = V2x7 at HA HPA HFA ⊢
     generalize w1x4.heap.size = tq at HA ⊢
     have HTQ : Hid (w2.heap.size ≤ tq) := HA.out.2.2
     have TB2 : Hid (Box V2x7 tq 53 #[.slice none 0 0, .slice none 0 0, .slice none 0 0]) := HA.out.2.1
     clear HB2
     have HB2 : Hid (Below w2.heap.size w2 V2x7) := HA.out.1
     clear HA
     clear HP2
     have HP2 := HPA
     clear HPA
     clear HF2
     have HF2 := HFA
     clear HFA
     refine rl 5 fun K hK => ?_
     go_simp
     refine (blocked24 p f (some ⟨wbx, 0, none⟩) (some ⟨ybx, 0, none⟩) (some ⟨bbx, 0, none⟩) p.nw p.ny p.nb obx 0 pbx 0 (some ⟨hbx, 0, none⟩) f.no f.np f.nh kk V2x7 HS.out HFS.out (HP2.out.in (Nat.zero_le _)) (HF2.out.in (Nat.zero_le _))).mono ?_
     rintro e w2x8 ⟨s1, sc1, s2, sc2, s3, sc3, he, h1, h2, h3, hb⟩
     rw [HN1.out, HN2.out, HN3.out] at he
     rw [HN1.out, HD1.out] at h1
     rw [HN2.out, HD2.out] at h2
     rw [HN3.out, HD3.out] at h3
     subst he
     have HO3 : Hid (St3 w2.heap.size w2x8 n1 n2 n3 D1 D2 D3 s1 sc1 s2 sc2 s3 sc3) := ⟨h1.keep HB2.out.size fun _ _ => rfl, h2.keep HB2.out.size fun _ _ => rfl, h3.keep HB2.out.size fun _ _ => rfl⟩
     have HB3 : Hid (Below w2.heap.size w2 w2x8) := HB2.out.trans (hb.mono HB2.out.size)
     have TB3 : Hid (Box w2x8 tq 53 #[.slice none 0 0, .slice none 0 0, .slice none 0 0]) := TB2.out.mono hb nr
     clear hb
     go_wp2_with fail
     refine hK.out _ _ ?_ (fun hHeldX => ?_)
     ·
      exact ⟨(HC.out _ (HQ.out _ HB3.out)).2.1.cell 0, (HC.out _ (HQ.out _ HB3.out)).2.1.cell 1, (HC.out _ (HQ.out _ HB3.out)).2.1.cell 2, (HC.out _ (HQ.out _ HB3.out)).2.1.cell 3, (HC.out _ (HQ.out _ HB3.out)).2.1.cell 4, (HC.out _ (HQ.out _ HB3.out)).2.2.cell 0, (HC.out _ (HQ.out _ HB3.out)).2.2.cell 1, (HC.out _ (HQ.out _ HB3.out)).2.2.cell 2, (HC.out _ (HQ.out _ HB3.out)).2.2.cell 3⟩
     clear hK K
     have z0 := TB3.out.cel 0
     have z1 := TB3.out.cel 1
     have z2 := TB3.out.cel 2
     have f0 := TB3.out.free 0
     have f1 := TB3.out.free 1
     have f2 := TB3.out.free 2
     have HF : Hid (Below w2.heap.size w2 (((w2x8.setCell ⟨tq, 0, none⟩ (.slice s1 n1 sc1)).setCell ⟨tq, 1, none⟩ (.slice s2 n2 sc2)).setCell ⟨tq, 2, none⟩ (.slice s3 n3 sc3)) ∧ w2.heap.size ≤ tq ∧ Box (((w2x8.setCell ⟨tq, 0, none⟩ (.slice s1 n1 sc1)).setCell ⟨tq, 1, none⟩ (.slice s2 n2 sc2)).setCell ⟨tq, 2, none⟩ (.slice s3 n3 sc3)) tq 53 #[.slice s1 n1 sc1, .slice s2 n2 sc2, .slice s3 n3 sc3] ∧ St3 w2.heap.size (((w2x8.setCell ⟨tq, 0, none⟩ (.slice s1 n1 sc1)).setCell ⟨tq, 1, none⟩ (.slice s2 n2 sc2)).setCell ⟨tq, 2, none⟩ (.slice s3 n3 sc3)) n1 n2 n3 D1 D2 D3 s1 sc1 s2 sc2 s3 sc3) := fin4 HB3.out HTQ.out TB3.out HO3.out
     refine rl 7 fun K hK => ?_
     go_simp
     refine hK.out _ _ ?_ (fun hHeldX => ?_)
     ·
      exact ⟨(HC.out _ (HQ.out _ HF.out.1)).2.1.cell 0, (HC.out _ (HQ.out _ HF.out.1)).2.1.cell 1, (HC.out _ (HQ.out _ HF.out.1)).2.1.cell 2, (HC.out _ (HQ.out _ HF.out.1)).2.1.cell 3, (HC.out _ (HQ.out _ HF.out.1)).2.1.cell 4, (HC.out _ (HQ.out _ HF.out.1)).2.2.cell 0, (HC.out _ (HQ.out _ HF.out.1)).2.2.cell 1, (HC.out _ (HQ.out _ HF.out.1)).2.2.cell 2, (HC.out _ (HQ.out _ HF.out.1)).2.2.cell 3⟩
     clear hK K
     refine wpAnyH_done (by kernel_rfl) ?_ _
     clear z0 z1 z2 f0 f1 f2
     go_wp2_with fail
     go_meet
     case rel => exact ⟨tq, s1, sc1, s2, sc2, s3, sc3, rfl, HF⟩
   ·
    have HA : Hid (Below w2.heap.size w2 (w0x3.alloc (.cells #[.slice none 0 0, .slice none 0 0, .slice none 0 0] 53)) ∧ Box (w0x3.alloc (.cells #[.slice none 0 0, .slice none 0 0, .slice none 0 0] 53)) w0x3.heap.size 53 #[.slice none 0 0, .slice none 0 0, .slice none 0 0] ∧ w2.heap.size ≤ w0x3.heap.size) := ⟨HB1.out.alloc HB1.out.size _, Box.new _ _ _, HB1.out.size⟩
    have HPA : Hid (PlOwn 0 (w0x3.alloc (.cells #[.slice none 0 0, .slice none 0 0, .slice none 0 0] 53)) p wbx ybx bbx lox rrx) := HP1.out.mono nr (bel1 _ _) nr
    go_simp
    refine hK.out _ _ ?_ (fun hHeldX => ?_)
    ·
     exact ⟨(HC.out _ (HQ.out _ HA.out.1)).2.1.cell 0, (HC.out _ (HQ.out _ HA.out.1)).2.1.cell 1, (HC.out _ (HQ.out _ HA.out.1)).2.1.cell 2, (HC.out _ (HQ.out _ HA.out.1)).2.1.cell 3, (HC.out _ (HQ.out _ HA.out.1)).2.1.cell 4, (HC.out _ (HQ.out _ HA.out.1)).2.2.cell 0, (HC.out _ (HQ.out _ HA.out.1)).2.2.cell 1, (HC.out _ (HQ.out _ HA.out.1)).2.2.cell 2, (HC.out _ (HQ.out _ HA.out.1)).2.2.cell 3⟩
    clear hK K
    generalize w0x3.alloc (.cells #[.slice none 0 0, .slice none 0 0, .slice none 0 0] 53) = V1x9 at HA HPA ⊢
    generalize w0x3.heap.size = tq at HA ⊢
    have HTQ : Hid (w2.heap.size ≤ tq) := HA.out.2.2
    have TB1 : Hid (Box V1x9 tq 53 #[.slice none 0 0, .slice none 0 0, .slice none 0 0]) := HA.out.2.1
    clear HB1
    have HB1 : Hid (Below w2.heap.size w2 V1x9) := HA.out.1
    clear HA
    clear HP1
    have HP1 := HPA
    clear HPA
    refine rl 3 fun K hK => ?_
    go_simp
    refine (HTF.out _ (HQ.out _ HB1.out)).mono ?_
    rintro e w1x10 ⟨obx, pbx, hbx, rx, rfl, hf, hb⟩
    have HP2 : Hid (PlOwn 0 w1x10 p wbx ybx bbx lox rrx) := HP1.out.mono nr hb nr
    have HF2 : Hid (FmOwn 0 w1x10 f (.slice (some ⟨obx, 0, none⟩) f.no f.no) (.slice (some ⟨pbx, 0, none⟩) f.np f.np) (.slice (some ⟨hbx, 0, none⟩) f.nh f.nh) rx) := hf.mono (Nat.zero_le _) (Below.refl _ _) nr
    have HB2 : Hid (Below w2.heap.size w2 w1x10) := HB1.out.trans (hb.mono HB1.out.size)
    have TB2 : Hid (Box w1x10 tq 53 #[.slice none 0 0, .slice none 0 0, .slice none 0 0]) := TB1.out.mono hb nr
    clear hb
    go_wp2_with fail
    refine hK.out _ _ ?_ (fun hHeldX => ?_)
    ·
     exact ⟨(HC.out _ (HQ.out _ HB2.out)).2.1.cell 0, (HC.out _ (HQ.out _ HB2.out)).2.1.cell 1, (HC.out _ (HQ.out _ HB2.out)).2.1.cell 2, (HC.out _ (HQ.out _ HB2.out)).2.1.cell 3, (HC.out _ (HQ.out _ HB2.out)).2.1.cell 4, (HC.out _ (HQ.out _ HB2.out)).2.2.cell 0, (HC.out _ (HQ.out _ HB2.out)).2.2.cell 1, (HC.out _ (HQ.out _ HB2.out)).2.2.cell 2, (HC.out _ (HQ.out _ HB2.out)).2.2.cell 3⟩
    clear hK K
    refine rl 5 fun K hK => ?_
    go_simp
    refine (blocked24 p f (some ⟨wbx, 0, none⟩) (some ⟨ybx, 0, none⟩) (some ⟨bbx, 0, none⟩) p.nw p.ny p.nb obx 0 pbx 0 (some ⟨hbx, 0, none⟩) f.no f.np f.nh kk w1x10 HS.out HFS.out (HP2.out.in (Nat.zero_le _)) (HF2.out.in (Nat.zero_le _))).mono ?_
    rintro e w2x11 ⟨s1, sc1, s2, sc2, s3, sc3, he, h1, h2, h3, hb⟩
    rw [HN1.out, HN2.out, HN3.out] at he
    rw [HN1.out, HD1.out] at h1
    rw [HN2.out, HD2.out] at h2
    rw [HN3.out, HD3.out] at h3
    subst he
    have HO3 : Hid (St3 w2.heap.size w2x11 n1 n2 n3 D1 D2 D3 s1 sc1 s2 sc2 s3 sc3) := ⟨h1.keep HB2.out.size fun _ _ => rfl, h2.keep HB2.out.size fun _ _ => rfl, h3.keep HB2.out.size fun _ _ => rfl⟩
    have HB3 : Hid (Below w2.heap.size w2 w2x11) := HB2.out.trans (hb.mono HB2.out.size)
    have TB3 : Hid (Box w2x11 tq 53 #[.slice none 0 0, .slice none 0 0, .slice none 0 0]) := TB2.out.mono hb nr
    clear hb
    go_wp2_with fail
    refine hK.out _ _ ?_ (fun hHeldX => ?_)
    ·
     exact ⟨(HC.out _ (HQ.out _ HB3.out)).2.1.cell 0, (HC.out _ (HQ.out _ HB3.out)).2.1.cell 1, (HC.out _ (HQ.out _ HB3.out)).2.1.cell 2, (HC.out _ (HQ.out _ HB3.out)).2.1.cell 3, (HC.out _ (HQ.out _ HB3.out)).2.1.cell 4, (HC.out _ (HQ.out _ HB3.out)).2.2.cell 0, (HC.out _ (HQ.out _ HB3.out)).2.2.cell 1, (HC.out _ (HQ.out _ HB3.out)).2.2.cell 2, (HC.out _ (HQ.out _ HB3.out)).2.2.cell 3⟩
    clear hK K
    have z0 := TB3.out.cel 0
    have z1 := TB3.out.cel 1
    have z2 := TB3.out.cel 2
    have f0 := TB3.out.free 0
    have f1 := TB3.out.free 1
    have f2 := TB3.out.free 2
    have HF : Hid (Below w2.heap.size w2 (((w2x11.setCell ⟨tq, 0, none⟩ (.slice s1 n1 sc1)).setCell ⟨tq, 1, none⟩ (.slice s2 n2 sc2)).setCell ⟨tq, 2, none⟩ (.slice s3 n3 sc3)) ∧ w2.heap.size ≤ tq ∧ Box (((w2x11.setCell ⟨tq, 0, none⟩ (.slice s1 n1 sc1)).setCell ⟨tq, 1, none⟩ (.slice s2 n2 sc2)).setCell ⟨tq, 2, none⟩ (.slice s3 n3 sc3)) tq 53 #[.slice s1 n1 sc1, .slice s2 n2 sc2, .slice s3 n3 sc3] ∧ St3 w2.heap.size (((w2x11.setCell ⟨tq, 0, none⟩ (.slice s1 n1 sc1)).setCell ⟨tq, 1, none⟩ (.slice s2 n2 sc2)).setCell ⟨tq, 2, none⟩ (.slice s3 n3 sc3)) n1 n2 n3 D1 D2 D3 s1 sc1 s2 sc2 s3 sc3) := fin4 HB3.out HTQ.out TB3.out HO3.out
    refine rl 7 fun K hK => ?_
    go_simp
    refine hK.out _ _ ?_ (fun hHeldX => ?_)
    ·
     exact ⟨(HC.out _ (HQ.out _ HF.out.1)).2.1.cell 0, (HC.out _ (HQ.out _ HF.out.1)).2.1.cell 1, (HC.out _ (HQ.out _ HF.out.1)).2.1.cell 2, (HC.out _ (HQ.out _ HF.out.1)).2.1.cell 3, (HC.out _ (HQ.out _ HF.out.1)).2.1.cell 4, (HC.out _ (HQ.out _ HF.out.1)).2.2.cell 0, (HC.out _ (HQ.out _ HF.out.1)).2.2.cell 1, (HC.out _ (HQ.out _ HF.out.1)).2.2.cell 2, (HC.out _ (HQ.out _ HF.out.1)).2.2.cell 3⟩
    clear hK K
    refine wpAnyH_done (by kernel_rfl) ?_ _
    clear z0 z1 z2 f0 f1 f2
    go_wp2_with fail
    go_meet
    case rel => exact ⟨tq, s1, sc1, s2, sc2, s3, sc3, rfl, HF⟩
  ·
   have HA : Hid (Below w2.heap.size w2 (VD.alloc (.cells #[.slice none 0 0, .slice none 0 0, .slice none 0 0] 53)) ∧ Box (VD.alloc (.cells #[.slice none 0 0, .slice none 0 0, .slice none 0 0] 53)) VD.heap.size 53 #[.slice none 0 0, .slice none 0 0, .slice none 0 0] ∧ w2.heap.size ≤ VD.heap.size) := ⟨HB0.out.alloc HB0.out.size _, Box.new _ _ _, HB0.out.size⟩
   go_simp
   refine hK.out _ _ ?_ (fun hHeldX => ?_)
   ·
    exact ⟨(HC.out _ (HQ.out _ HA.out.1)).2.1.cell 0, (HC.out _ (HQ.out _ HA.out.1)).2.1.cell 1, (HC.out _ (HQ.out _ HA.out.1)).2.1.cell 2, (HC.out _ (HQ.out _ HA.out.1)).2.1.cell 3, (HC.out _ (HQ.out _ HA.out.1)).2.1.cell 4, (HC.out _ (HQ.out _ HA.out.1)).2.2.cell 0, (HC.out _ (HQ.out _ HA.out.1)).2.2.cell 1, (HC.out _ (HQ.out _ HA.out.1)).2.2.cell 2, (HC.out _ (HQ.out _ HA.out.1)).2.2.cell 3⟩
   clear hK K
   generalize VD.alloc (.cells #[.slice none 0 0, .slice none 0 0, .slice none 0 0] 53) = V0x12 at HA ⊢
   generalize VD.heap.size = tq at HA ⊢
   have HTQ : Hid (w2.heap.size ≤ tq) := HA.out.2.2
   have TB0 : Hid (Box V0x12 tq 53 #[.slice none 0 0, .slice none 0 0, .slice none 0 0]) := HA.out.2.1
   clear HB0
   have HB0 : Hid (Below w2.heap.size w2 V0x12) := HA.out.1
   clear HA
   refine rl 1 fun K hK => ?_
   go_simp
   refine (HTP.out _ (HQ.out _ HB0.out)).mono ?_
   rintro e w0x13 ⟨wbx, ybx, bbx, lox, rrx, rfl, ho, hb⟩
   have HP1 : Hid (PlOwn 0 w0x13 p wbx ybx bbx lox rrx) := ho.mono (Nat.zero_le _) (Below.refl _ _) nr
   have HB1 : Hid (Below w2.heap.size w2 w0x13) := HB0.out.trans (hb.mono HB0.out.size)
   have TB1 : Hid (Box w0x13 tq 53 #[.slice none 0 0, .slice none 0 0, .slice none 0 0]) := TB0.out.mono hb nr
   clear hb
   go_wp2_with fail
   refine hK.out _ _ ?_ (fun hHeldX => ?_)
   ·
    exact ⟨(HC.out _ (HQ.out _ HB1.out)).2.1.cell 0, (HC.out _ (HQ.out _ HB1.out)).2.1.cell 1, (HC.out _ (HQ.out _ HB1.out)).2.1.cell 2, (HC.out _ (HQ.out _ HB1.out)).2.1.cell 3, (HC.out _ (HQ.out _ HB1.out)).2.1.cell 4, (HC.out _ (HQ.out _ HB1.out)).2.2.cell 0, (HC.out _ (HQ.out _ HB1.out)).2.2.cell 1, (HC.out _ (HQ.out _ HB1.out)).2.2.cell 2, (HC.out _ (HQ.out _ HB1.out)).2.2.cell 3⟩
   clear hK K
   refine rl 3 fun K hK => ?_
   go_simp
   refine (HTF.out _ (HQ.out _ HB1.out)).mono ?_
   rintro e w1x14 ⟨obx, pbx, hbx, rx, rfl, hf, hb⟩
   have HP2 : Hid (PlOwn 0 w1x14 p wbx ybx bbx lox rrx) := HP1.out.mono nr hb nr
   have HF2 : Hid (FmOwn 0 w1x14 f (.slice (some ⟨obx, 0, none⟩) f.no f.no) (.slice (some ⟨pbx, 0, none⟩) f.np f.np) (.slice (some ⟨hbx, 0, none⟩) f.nh f.nh) rx) := hf.mono (Nat.zero_le _) (Below.refl _ _) nr
   have HB2 : Hid (Below w2.heap.size w2 w1x14) := HB1.out.trans (hb.mono HB1.out.size)
   have TB2 : Hid (Box w1x14 tq 53 #[.slice none 0 0, .slice none 0 0, .slice none 0 0]) := TB1.out.mono hb nr
   clear hb
   go_wp2_with fail
   refine hK.out _ _ ?_ (fun hHeldX => ?_)
   ·
    exact ⟨(HC.out _ (HQ.out _ HB2.out)).2.1.cell 0, (HC.out _ (HQ.out _ HB2.out)).2.1.cell 1, (HC.out _ (HQ.out _ HB2.out)).2.1.cell 2, (HC.out _ (HQ.out _ HB2.out)).2.1.cell 3, (HC.out _ (HQ.out _ HB2.out)).2.1.cell 4, (HC.out _ (HQ.out _ HB2.out)).2.2.cell 0, (HC.out _ (HQ.out _ HB2.out)).2.2.cell 1, (HC.out _ (HQ.out _ HB2.out)).2.2.cell 2, (HC.out _ (HQ.out _ HB2.out)).2.2.cell 3⟩
   clear hK K
   refine rl 5 fun K hK => ?_
   go_simp
   refine (blocked24 p f (some ⟨wbx, 0, none⟩) (some ⟨ybx, 0, none⟩) (some ⟨bbx, 0, none⟩) p.nw p.ny p.nb obx 0 pbx 0 (some ⟨hbx, 0, none⟩) f.no f.np f.nh kk w1x14 HS.out HFS.out (HP2.out.in (Nat.zero_le _)) (HF2.out.in (Nat.zero_le _))).mono ?_
   rintro e w2x15 ⟨s1, sc1, s2, sc2, s3, sc3, he, h1, h2, h3, hb⟩
   rw [HN1.out, HN2.out, HN3.out] at he
   rw [HN1.out, HD1.out] at h1
   rw [HN2.out, HD2.out] at h2
   rw [HN3.out, HD3.out] at h3
   subst he
   have HO3 : Hid (St3 w2.heap.size w2x15 n1 n2 n3 D1 D2 D3 s1 sc1 s2 sc2 s3 sc3) := ⟨h1.keep HB2.out.size fun _ _ => rfl, h2.keep HB2.out.size fun _ _ => rfl, h3.keep HB2.out.size fun _ _ => rfl⟩
   have HB3 : Hid (Below w2.heap.size w2 w2x15) := HB2.out.trans (hb.mono HB2.out.size)
   have TB3 : Hid (Box w2x15 tq 53 #[.slice none 0 0, .slice none 0 0, .slice none 0 0]) := TB2.out.mono hb nr
   clear hb
   go_wp2_with fail
   refine hK.out _ _ ?_ (fun hHeldX => ?_)
   ·
    exact ⟨(HC.out _ (HQ.out _ HB3.out)).2.1.cell 0, (HC.out _ (HQ.out _ HB3.out)).2.1.cell 1, (HC.out _ (HQ.out _ HB3.out)).2.1.cell 2, (HC.out _ (HQ.out _ HB3.out)).2.1.cell 3, (HC.out _ (HQ.out _ HB3.out)).2.1.cell 4, (HC.out _ (HQ.out _ HB3.out)).2.2.cell 0, (HC.out _ (HQ.out _ HB3.out)).2.2.cell 1, (HC.out _ (HQ.out _ HB3.out)).2.2.cell 2, (HC.out _ (HQ.out _ HB3.out)).2.2.cell 3⟩
   clear hK K
   have z0 := TB3.out.cel 0
   have z1 := TB3.out.cel 1
   have z2 := TB3.out.cel 2
   have f0 := TB3.out.free 0
   have f1 := TB3.out.free 1
   have f2 := TB3.out.free 2
   have HF : Hid (Below w2.heap.size w2 (((w2x15.setCell ⟨tq, 0, none⟩ (.slice s1 n1 sc1)).setCell ⟨tq, 1, none⟩ (.slice s2 n2 sc2)).setCell ⟨tq, 2, none⟩ (.slice s3 n3 sc3)) ∧ w2.heap.size ≤ tq ∧ Box (((w2x15.setCell ⟨tq, 0, none⟩ (.slice s1 n1 sc1)).setCell ⟨tq, 1, none⟩ (.slice s2 n2 sc2)).setCell ⟨tq, 2, none⟩ (.slice s3 n3 sc3)) tq 53 #[.slice s1 n1 sc1, .slice s2 n2 sc2, .slice s3 n3 sc3] ∧ St3 w2.heap.size (((w2x15.setCell ⟨tq, 0, none⟩ (.slice s1 n1 sc1)).setCell ⟨tq, 1, none⟩ (.slice s2 n2 sc2)).setCell ⟨tq, 2, none⟩ (.slice s3 n3 sc3)) n1 n2 n3 D1 D2 D3 s1 sc1 s2 sc2 s3 sc3) := fin4 HB3.out HTQ.out TB3.out HO3.out
   refine rl 7 fun K hK => ?_
   go_simp
   refine hK.out _ _ ?_ (fun hHeldX => ?_)
   ·
    exact ⟨(HC.out _ (HQ.out _ HF.out.1)).2.1.cell 0, (HC.out _ (HQ.out _ HF.out.1)).2.1.cell 1, (HC.out _ (HQ.out _ HF.out.1)).2.1.cell 2, (HC.out _ (HQ.out _ HF.out.1)).2.1.cell 3, (HC.out _ (HQ.out _ HF.out.1)).2.1.cell 4, (HC.out _ (HQ.out _ HF.out.1)).2.2.cell 0, (HC.out _ (HQ.out _ HF.out.1)).2.2.cell 1, (HC.out _ (HQ.out _ HF.out.1)).2.2.cell 2, (HC.out _ (HQ.out _ HF.out.1)).2.2.cell 3⟩
   clear hK K
   refine wpAnyH_done (by kernel_rfl) ?_ _
   clear z0 z1 z2 f0 f1 f2
   go_wp2_with fail
   go_meet
   case rel => exact ⟨tq, s1, sc1, s2, sc2, s3, sc3, rfl, HF⟩
 case rest =>
  obtain ⟨sq, s1, sc1, s2, sc2, s3, sc3, rfl, F5⟩ := hcut
  clear HQ S2
  have a0 := (HC.out wc F5.out.1).2.1.cel 0
  have a1 := (HC.out wc F5.out.1).2.1.cel 1
  have a2 := (HC.out wc F5.out.1).2.1.cel 2
  have a3 := (HC.out wc F5.out.1).2.1.cel 3
  have a4 := (HC.out wc F5.out.1).2.1.cel 4
  go_wp2_with fail
  clear a0 a1 a2 a3 a4
  refine (HTP.out _ F5.out.1).mono ?_
  rintro e w6 ⟨wb5, yb5, bb5, lo5, rr5, rfl, ho6, hb6⟩
  have PW : Hid (∀ W, Below w6.heap.size w6 W → PlW wc.heap.size w6.heap.size W p wb5 yb5 bb5 rr5 ∧ PlOwn 0 W p wb5 yb5 bb5 lo5 rr5) := fun W hB => ⟨(ho6.pw nr).mk' (Mk.of_below hB), ho6.mono (Nat.zero_le _) hB nr⟩
  have B6 : Hid (Below wc.heap.size wc w6) := hb6
  clear ho6 hb6
  have B7 : Hid (Below w6.heap.size w6 (w6.alloc (.cells #[.int .i64 p.sec, .slice (some ⟨wb5, 0, none⟩) p.nw p.nw, .slice (some ⟨yb5, 0, none⟩) p.ny p.ny, .slice (some ⟨bb5, 0, none⟩) p.nb p.nb, .int .i64 p.hold] 37)) ∧ Box (w6.alloc (.cells #[.int .i64 p.sec, .slice (some ⟨wb5, 0, none⟩) p.nw p.nw, .slice (some ⟨yb5, 0, none⟩) p.ny p.ny, .slice (some ⟨bb5, 0, none⟩) p.nb p.nb, .int .i64 p.hold] 37)) w6.heap.size 37 #[.int .i64 p.sec, .slice (some ⟨wb5, 0, none⟩) p.nw p.nw, .slice (some ⟨yb5, 0, none⟩) p.ny p.ny, .slice (some ⟨bb5, 0, none⟩) p.nb p.nb, .int .i64 p.hold]) := ⟨bel1 _ _, Box.new _ _ _⟩
  have HB7 := F5.out.1.trans ((B6.out.trans (B7.out.1.mono B6.out.size)).mono F5.out.1.size)
  have b0 : (w6.alloc (.cells #[.int .i64 p.sec, .slice (some ⟨wb5, 0, none⟩) p.nw p.nw, .slice (some ⟨yb5, 0, none⟩) p.ny p.ny, .slice (some ⟨bb5, 0, none⟩) p.nb p.nb, .int .i64 p.hold] 37)).cell? ⟨(w.heap.size + 1), 0, none⟩ = some (.bool f.ok) := (HC.out _ HB7).2.2.cell 0
  have b1 : (w6.alloc (.cells #[.int .i64 p.sec, .slice (some ⟨wb5, 0, none⟩) p.nw p.nw, .slice (some ⟨yb5, 0, none⟩) p.ny p.ny, .slice (some ⟨bb5, 0, none⟩) p.nb p.nb, .int .i64 p.hold] 37)).cell? ⟨(w.heap.size + 1), 1, none⟩ = some (.slice oa f.no oc) := (HC.out _ HB7).2.2.cell 1
  have b2 : (w6.alloc (.cells #[.int .i64 p.sec, .slice (some ⟨wb5, 0, none⟩) p.nw p.nw, .slice (some ⟨yb5, 0, none⟩) p.ny p.ny, .slice (some ⟨bb5, 0, none⟩) p.nb p.nb, .int .i64 p.hold] 37)).cell? ⟨(w.heap.size + 1), 2, none⟩ = some (.slice pa f.np pc) := (HC.out _ HB7).2.2.cell 2
  have b3 : (w6.alloc (.cells #[.int .i64 p.sec, .slice (some ⟨wb5, 0, none⟩) p.nw p.nw, .slice (some ⟨yb5, 0, none⟩) p.ny p.ny, .slice (some ⟨bb5, 0, none⟩) p.nb p.nb, .int .i64 p.hold] 37)).cell? ⟨(w.heap.size + 1), 3, none⟩ = some (.slice ha f.nh hc) := (HC.out _ HB7).2.2.cell 3
  go_wp2_with fail
  clear b0 b1 b2 b3 HB7
  generalize w6.alloc (.cells #[.int .i64 p.sec, .slice (some ⟨wb5, 0, none⟩) p.nw p.nw, .slice (some ⟨yb5, 0, none⟩) p.ny p.ny, .slice (some ⟨bb5, 0, none⟩) p.nb p.nb, .int .i64 p.hold] 37) = V7 at B7 ⊢
  have C7 : Hid (Below w2.heap.size w2 V7 ∧ wc.heap.size ≤ w6.heap.size ∧ w6.heap.size < V7.heap.size) := ⟨F5.out.1.trans ((B6.out.trans (B7.out.1.mono B6.out.size)).mono F5.out.1.size), B6.out.size, B7.out.2.lt⟩
  refine (HTF.out _ C7.out.1).mono ?_
  rintro e w8 ⟨ob5, pb5, hb5, r5, rfl, hf8, hb8⟩
  have B8 : Hid (Below V7.heap.size V7 (w8.alloc (.cells #[.bool f.ok, .slice (some ⟨ob5, 0, none⟩) f.no f.no, .slice (some ⟨pb5, 0, none⟩) f.np f.np, .slice (some ⟨hb5, 0, none⟩) f.nh f.nh] 42)) ∧ FmOwn V7.heap.size (w8.alloc (.cells #[.bool f.ok, .slice (some ⟨ob5, 0, none⟩) f.no f.no, .slice (some ⟨pb5, 0, none⟩) f.np f.np, .slice (some ⟨hb5, 0, none⟩) f.nh f.nh] 42)) f (.slice (some ⟨ob5, 0, none⟩) f.no f.no) (.slice (some ⟨pb5, 0, none⟩) f.np f.np) (.slice (some ⟨hb5, 0, none⟩) f.nh f.nh) r5 ∧ Box (w8.alloc (.cells #[.bool f.ok, .slice (some ⟨ob5, 0, none⟩) f.no f.no, .slice (some ⟨pb5, 0, none⟩) f.np f.np, .slice (some ⟨hb5, 0, none⟩) f.nh f.nh] 42)) w8.heap.size 42 #[.bool f.ok, .slice (some ⟨ob5, 0, none⟩) f.no f.no, .slice (some ⟨pb5, 0, none⟩) f.np f.np, .slice (some ⟨hb5, 0, none⟩) f.nh f.nh] ∧ V7.heap.size ≤ w8.heap.size) := ⟨hb8.alloc hb8.size _, hf8.mono nr (bel1 _ _) nr, Box.new _ _ _, hb8.size⟩
  clear hf8 hb8
  have x0 : (w8.alloc (.cells #[.bool f.ok, .slice (some ⟨ob5, 0, none⟩) f.no f.no, .slice (some ⟨pb5, 0, none⟩) f.np f.np, .slice (some ⟨hb5, 0, none⟩) f.nh f.nh] 42)).cell? ⟨w6.heap.size, 0, none⟩ = some (.int .i64 p.sec) := (B7.out.2.mono B8.out.1 nr).cell 0
  have x1 : (w8.alloc (.cells #[.bool f.ok, .slice (some ⟨ob5, 0, none⟩) f.no f.no, .slice (some ⟨pb5, 0, none⟩) f.np f.np, .slice (some ⟨hb5, 0, none⟩) f.nh f.nh] 42)).cell? ⟨w6.heap.size, 1, none⟩ = some (.slice (some ⟨wb5, 0, none⟩) p.nw p.nw) := (B7.out.2.mono B8.out.1 nr).cell 1
  have x2 : (w8.alloc (.cells #[.bool f.ok, .slice (some ⟨ob5, 0, none⟩) f.no f.no, .slice (some ⟨pb5, 0, none⟩) f.np f.np, .slice (some ⟨hb5, 0, none⟩) f.nh f.nh] 42)).cell? ⟨w6.heap.size, 2, none⟩ = some (.slice (some ⟨yb5, 0, none⟩) p.ny p.ny) := (B7.out.2.mono B8.out.1 nr).cell 2
  have x3 : (w8.alloc (.cells #[.bool f.ok, .slice (some ⟨ob5, 0, none⟩) f.no f.no, .slice (some ⟨pb5, 0, none⟩) f.np f.np, .slice (some ⟨hb5, 0, none⟩) f.nh f.nh] 42)).cell? ⟨w6.heap.size, 3, none⟩ = some (.slice (some ⟨bb5, 0, none⟩) p.nb p.nb) := (B7.out.2.mono B8.out.1 nr).cell 3
  have x4 : (w8.alloc (.cells #[.bool f.ok, .slice (some ⟨ob5, 0, none⟩) f.no f.no, .slice (some ⟨pb5, 0, none⟩) f.np f.np, .slice (some ⟨hb5, 0, none⟩) f.nh f.nh] 42)).cell? ⟨w6.heap.size, 4, none⟩ = some (.int .i64 p.hold) := (B7.out.2.mono B8.out.1 nr).cell 4
  go_wp2_with fail
  clear x0 x1 x2 x3 x4
  generalize w8.alloc (.cells #[.bool f.ok, .slice (some ⟨ob5, 0, none⟩) f.no f.no, .slice (some ⟨pb5, 0, none⟩) f.np f.np, .slice (some ⟨hb5, 0, none⟩) f.nh f.nh] 42) = V9 at B8 ⊢
  generalize w8.heap.size = yq at B8 ⊢
  have C9 : Hid (Below w6.heap.size w6 V9 ∧ Below w2.heap.size w2 V9) := ⟨B7.out.1.trans (B8.out.1.mono B7.out.1.size), C7.out.1.trans (B8.out.1.mono C7.out.1.size)⟩
  have HV9 := HEL.out V9 C9.out.2
  refine (blocked25 p f wb5 yb5 bb5 lo5 rr5 ob5 pb5 hb5 r5 et t4 t5 ev v4 v5 kk V9 HS.out HFS.out (PW.out V9 C9.out.1).2 (B8.out.2.1.mono (Nat.zero_le _) (Below.refl _ V9) nr) HV9.1 HV9.2.1 HV9.2.2.1 HV9.2.2.2).mono ?_
  clear HV9
  rintro e w9 ⟨g1, gc1, g2, gc2, g3, gc3, he, h1, h2, h3, q1, q2, hb⟩
  rw [HN1.out, HN2.out, HN3.out] at he
  rw [HN1.out, HD1.out] at h1
  rw [HN2.out, HD2.out] at h2
  rw [HN3.out, HD3.out] at h3
  rw [HN1.out, HN2.out, HN3.out] at q1
  rw [HN2.out, HN3.out] at q2
  subst he
  have HAP : Hid ((∀ g, (Value.slice g1 n1 gc1).ownBlock = some g → (Value.slice g2 n2 gc2).ownBlock ≠ some g ∧ (Value.slice g3 n3 gc3).ownBlock ≠ some g) ∧ ∀ g, (Value.slice g2 n2 gc2).ownBlock = some g → (Value.slice g3 n3 gc3).ownBlock ≠ some g) := ⟨q1, q2⟩
  have B10 : Hid (Below V9.heap.size V9 (w9.alloc (.cells #[.slice g1 n1 gc1, .slice g2 n2 gc2, .slice g3 n3 gc3] 53)) ∧ St3 V9.heap.size (w9.alloc (.cells #[.slice g1 n1 gc1, .slice g2 n2 gc2, .slice g3 n3 gc3] 53)) n1 n2 n3 D1 D2 D3 g1 gc1 g2 gc2 g3 gc3 ∧ Box (w9.alloc (.cells #[.slice g1 n1 gc1, .slice g2 n2 gc2, .slice g3 n3 gc3] 53)) w9.heap.size 53 #[.slice g1 n1 gc1, .slice g2 n2 gc2, .slice g3 n3 gc3] ∧ V9.heap.size ≤ w9.heap.size) := ⟨hb.alloc hb.size _, ⟨h1.alloc _, h2.alloc _, h3.alloc _⟩, Box.new _ _ _, hb.size⟩
  clear h1 h2 h3 q1 q2 hb
  have T : Hid (∀ W, Below (w9.alloc (.cells #[.slice g1 n1 gc1, .slice g2 n2 gc2, .slice g3 n3 gc3] 53)).heap.size (w9.alloc (.cells #[.slice g1 n1 gc1, .slice g2 n2 gc2, .slice g3 n3 gc3] 53)) W → (Below w6.heap.size w6 W ∧ Below w2.heap.size w2 W ∧ Below V9.heap.size V9 W) ∧ Box W w6.heap.size 37 #[.int .i64 p.sec, .slice (some ⟨wb5, 0, none⟩) p.nw p.nw, .slice (some ⟨yb5, 0, none⟩) p.ny p.ny, .slice (some ⟨bb5, 0, none⟩) p.nb p.nb, .int .i64 p.hold] ∧ FmOwn V7.heap.size W f (.slice (some ⟨ob5, 0, none⟩) f.no f.no) (.slice (some ⟨pb5, 0, none⟩) f.np f.np) (.slice (some ⟨hb5, 0, none⟩) f.nh f.nh) r5 ∧ Box W yq 42 #[.bool f.ok, .slice (some ⟨ob5, 0, none⟩) f.no f.no, .slice (some ⟨pb5, 0, none⟩) f.np f.np, .slice (some ⟨hb5, 0, none⟩) f.nh f.nh] ∧ (St3 0 W n1 n2 n3 D1 D2 D3 s1 sc1 s2 sc2 s3 sc3 ∧ Box W sq 53 #[.slice s1 n1 sc1, .slice s2 n2 sc2, .slice s3 n3 sc3]) ∧ St3 V9.heap.size W n1 n2 n3 D1 D2 D3 g1 gc1 g2 gc2 g3 gc3 ∧ Box W w9.heap.size 53 #[.slice g1 n1 gc1, .slice g2 n2 gc2, .slice g3 n3 gc3]) := fun W hB => by
   have q : Below V9.heap.size V9 W := B10.out.1.trans (hB.mono B10.out.1.size)
   have q7 : Below V7.heap.size V7 W := B8.out.1.trans (q.mono B8.out.1.size)
   have q5 : Below wc.heap.size wc W := (B6.out.trans ((B7.out.1.trans (q7.mono B7.out.1.size)).mono B6.out.size))
   exact ⟨⟨C9.out.1.trans (q.mono C9.out.1.size), C9.out.2.trans (q.mono C9.out.2.size), q⟩, B7.out.2.mono q7 nr, B8.out.2.1.mono nr q nr, B8.out.2.2.1.mono q nr, ⟨F5.out.2.2.2.mono (Nat.zero_le _) q5 nr, F5.out.2.2.1.mono q5 nr⟩, B10.out.2.1.mono nr hB nr, B10.out.2.2.1.mono hB nr⟩
  have HSB : Hid (sq < wc.heap.size ∧ ∀ W, Below wc.heap.size wc W → St3 w2.heap.size W n1 n2 n3 D1 D2 D3 s1 sc1 s2 sc2 s3 sc3) := ⟨F5.out.2.2.1.lt, fun W hB => F5.out.2.2.2.mono nr hB nr⟩
  have HSG : Hid (∀ g, ((Value.slice s1 n1 sc1).ownBlock = some g ∨ (Value.slice s2 n2 sc2).ownBlock = some g ∨ (Value.slice s3 n3 sc3).ownBlock = some g) → g < wc.heap.size) := fun g hg => by
   obtain ⟨y1, y2, y3⟩ := F5.out.2.2.2
   rcases hg with hg | hg | hg
   ·
    exact (y1.lt hg).2
   ·
    exact (y2.lt hg).2
   ·
    exact (y3.lt hg).2
  have HSZ : Hid (w2.heap.size ≤ wc.heap.size ∧ wc.heap.size ≤ w6.heap.size ∧ w6.heap.size < V7.heap.size ∧ V7.heap.size ≤ yq ∧ yq < V9.heap.size ∧ V7.heap.size ≤ V9.heap.size ∧ V9.heap.size ≤ w9.heap.size) := ⟨F5.out.1.size, C7.out.2.1, C7.out.2.2, B8.out.2.2.2, B8.out.2.2.1.lt, B8.out.1.size, B10.out.2.2.2⟩
  clear B8 B7 B6 C7 C9 F5 B10
  have T10 := T.out _ (Below.refl _ _)
  have x0 := T10.2.2.2.2.1.2.cel 0
  have x1 := T10.2.2.2.2.1.2.cel 1
  have x2 := T10.2.2.2.2.1.2.cel 2
  clear T10
  go_wp2_with fail
  clear x0 x1 x2
  generalize w9.alloc (.cells #[.slice g1 n1 gc1, .slice g2 n2 gc2, .slice g3 n3 gc3] 53) = w10 at T ⊢
  generalize w9.heap.size = gq at T HSZ ⊢
  have T10 := T.out _ (Below.refl _ _)
  refine (eqStays26 g1 g2 g3 s1 s2 s3 gc1 gc2 gc3 sc1 sc2 sc3 n1 n2 n3 D1 D2 D3 w10 hm1 hm2 hm3 (T10.2.2.2.2.2.1.1.vs.le (Nat.zero_le _)) (T10.2.2.2.2.2.1.2.1.vs.le (Nat.zero_le _)) (T10.2.2.2.2.2.1.2.2.vs.le (Nat.zero_le _)) (T10.2.2.2.2.1.1.1.vs.le (Nat.zero_le _)) (T10.2.2.2.2.1.1.2.1.vs.le (Nat.zero_le _)) (T10.2.2.2.2.1.1.2.2.vs.le (Nat.zero_le _))).mono ?_
  clear T10
  rintro e w11 ⟨rfl, hb11⟩
  have U11 : Hid (Below w10.heap.size w10 w11) := hb11
  clear hb11
  have T11 := T.out w11 U11.out
  have x0 := T11.2.1.cel 0
  have x1 := T11.2.1.cel 1
  have x2 := T11.2.1.cel 2
  have x3 := T11.2.1.cel 3
  have x4 := T11.2.1.cel 4
  have a0 := (HC.out w11 T11.1.2.1).2.1.cel 0
  have a1 := (HC.out w11 T11.1.2.1).2.1.cel 1
  have a2 := (HC.out w11 T11.1.2.1).2.1.cel 2
  have a3 := (HC.out w11 T11.1.2.1).2.1.cel 3
  have a4 := (HC.out w11 T11.1.2.1).2.1.cel 4
  clear T11
  have MD2 : Hid (Below w10.heap.size w10 w11.drew) := U11.out.drew
  go_wp2_with fail
  refine wp_region_held_drew (S := (fun wx : World => wx.cell? ⟨w6.heap.size, 0, none⟩ = some (.int .i64 p.sec) ∧ wx.cell? ⟨w6.heap.size, 1, none⟩ = some (.slice (some ⟨wb5, 0, none⟩) p.nw p.nw) ∧ wx.cell? ⟨w6.heap.size, 2, none⟩ = some (.slice (some ⟨yb5, 0, none⟩) p.ny p.ny) ∧ wx.cell? ⟨w6.heap.size, 3, none⟩ = some (.slice (some ⟨bb5, 0, none⟩) p.nb p.nb) ∧ wx.cell? ⟨w6.heap.size, 4, none⟩ = some (.int .i64 p.hold) ∧ wx.cell? ⟨w.heap.size, 0, none⟩ = some (.int .i64 p.sec) ∧ wx.cell? ⟨w.heap.size, 1, none⟩ = some (.slice wa p.nw wk) ∧ wx.cell? ⟨w.heap.size, 2, none⟩ = some (.slice ya p.ny yc) ∧ wx.cell? ⟨w.heap.size, 3, none⟩ = some (.slice ba p.nb bc) ∧ wx.cell? ⟨w.heap.size, 4, none⟩ = some (.int .i64 p.hold))) (by kernel_rfl) ?_ (fun hHeld => ?_)
  ·
   exact ⟨x0, x1, x2, x3, x4, a0, a1, a2, a3, a4⟩
  refine tk 0 ?_
  refine tk 1 ?_
  refine rl 2 fun K hK => ?_
  go_simp
  refine (HTP.out _ (T.out _ MD2.out).1.2.1).mono ?_
  rintro e w12 ⟨wb7, yb7, bb7, lo7, rr7, rfl, ho7, hb12⟩
  have B12 := MD2.out.trans (hb12.mono MD2.out.size)
  have T12 := T.out w12 B12
  go_wp2_with fail
  refine hK.out _ _ ?_ (fun hHeld2 => ?_)
  ·
   exact ⟨T12.2.1.cell 0, T12.2.1.cell 1, T12.2.1.cell 2, T12.2.1.cell 3, T12.2.1.cell 4, (HC.out w12 T12.1.2.1).2.1.cell 0, (HC.out w12 T12.1.2.1).2.1.cell 1, (HC.out w12 T12.1.2.1).2.1.cell 2, (HC.out w12 T12.1.2.1).2.1.cell 3, (HC.out w12 T12.1.2.1).2.1.cell 4⟩
  clear hK K
  refine rl 3 fun K hK => ?_
  go_simp
  refine (eqPlan p _ _ _ _ _ _ _ _ _ _ _ _ w12 HS.out ((PW.out w12 T12.1.1).2.in (Nat.zero_le _)) (ho7.in (Nat.zero_le _))).mono ?_
  rintro e w13 ⟨rfl, hb13⟩
  have B13 := B12.trans (hb13.mono B12.size)
  have T13 := T.out w13 B13
  go_wp2_with fail
  refine hK.out _ _ ?_ (fun hHeld3 => ?_)
  ·
   exact ⟨T13.2.1.cell 0, T13.2.1.cell 1, T13.2.1.cell 2, T13.2.1.cell 3, T13.2.1.cell 4, (HC.out w13 T13.1.2.1).2.1.cell 0, (HC.out w13 T13.1.2.1).2.1.cell 1, (HC.out w13 T13.1.2.1).2.1.cell 2, (HC.out w13 T13.1.2.1).2.1.cell 3, (HC.out w13 T13.1.2.1).2.1.cell 4⟩
  clear hK K
  refine tk 4 ?_
  refine wpAnyH_done (by kernel_rfl) ?_ _
  have U13 : Hid (Below w10.heap.size w10 w13) := B13
  clear ho7 hb12 hb13 B12 B13 T12 T13 x0 x1 x2 x3 x4 a0 a1 a2 a3 a4 MD2 U11
  have T13 := T.out w13 U13.out
  have y0 := T13.2.2.2.1.cel 0
  have y1 := T13.2.2.2.1.cel 1
  have y2 := T13.2.2.2.1.cel 2
  have y3 := T13.2.2.2.1.cel 3
  have b0 := (HC.out w13 T13.1.2.1).2.2.cel 0
  have b1 := (HC.out w13 T13.1.2.1).2.2.cel 1
  have b2 := (HC.out w13 T13.1.2.1).2.2.cel 2
  have b3 := (HC.out w13 T13.1.2.1).2.2.cel 3
  clear T13
  have MD3 : Hid (Below w10.heap.size w10 w13.drew) := U13.out.drew
  go_wp2_with fail
  refine wp_region_held_drew (S := (fun wx : World => wx.cell? ⟨yq, 0, none⟩ = some (.bool f.ok) ∧ wx.cell? ⟨yq, 1, none⟩ = some (.slice (some ⟨ob5, 0, none⟩) f.no f.no) ∧ wx.cell? ⟨yq, 2, none⟩ = some (.slice (some ⟨pb5, 0, none⟩) f.np f.np) ∧ wx.cell? ⟨yq, 3, none⟩ = some (.slice (some ⟨hb5, 0, none⟩) f.nh f.nh) ∧ wx.cell? ⟨(w.heap.size + 1), 0, none⟩ = some (.bool f.ok) ∧ wx.cell? ⟨(w.heap.size + 1), 1, none⟩ = some (.slice oa f.no oc) ∧ wx.cell? ⟨(w.heap.size + 1), 2, none⟩ = some (.slice pa f.np pc) ∧ wx.cell? ⟨(w.heap.size + 1), 3, none⟩ = some (.slice ha f.nh hc))) (by kernel_rfl) ?_ (fun hHeld => ?_)
  ·
   exact ⟨y0, y1, y2, y3, b0, b1, b2, b3⟩
  refine tk 0 ?_
  refine tk 1 ?_
  refine rl 2 fun K hK => ?_
  go_simp
  refine (HTF.out _ (T.out _ MD3.out).1.2.1).mono ?_
  rintro e w14 ⟨ob7, pb7, hb7, r7, rfl, hf14, hb14⟩
  have B14 := MD3.out.trans (hb14.mono MD3.out.size)
  have T14 := T.out w14 B14
  go_wp2_with fail
  refine hK.out _ _ ?_ (fun hHeld2 => ?_)
  ·
   exact ⟨T14.2.2.2.1.cell 0, T14.2.2.2.1.cell 1, T14.2.2.2.1.cell 2, T14.2.2.2.1.cell 3, (HC.out w14 T14.1.2.1).2.2.cell 0, (HC.out w14 T14.1.2.1).2.2.cell 1, (HC.out w14 T14.1.2.1).2.2.cell 2, (HC.out w14 T14.1.2.1).2.2.cell 3⟩
  clear hK K
  refine rl 3 fun K hK => ?_
  go_simp
  refine (eqFrame f _ _ _ _ _ _ _ _ _ _ _ _ w14 HFS.out (T14.2.2.1.in (Nat.zero_le _)) (hf14.in (Nat.zero_le _))).mono ?_
  rintro e w15 ⟨rfl, hb15⟩
  have B15 := B14.trans (hb15.mono B14.size)
  have T15 := T.out w15 B15
  go_wp2_with fail
  refine hK.out _ _ ?_ (fun hHeld3 => ?_)
  ·
   exact ⟨T15.2.2.2.1.cell 0, T15.2.2.2.1.cell 1, T15.2.2.2.1.cell 2, T15.2.2.2.1.cell 3, (HC.out w15 T15.1.2.1).2.2.cell 0, (HC.out w15 T15.1.2.1).2.2.cell 1, (HC.out w15 T15.1.2.1).2.2.cell 2, (HC.out w15 T15.1.2.1).2.2.cell 3⟩
  clear hK K
  refine tk 4 ?_
  refine wpAnyH_done (by kernel_rfl) ?_ _
  have U15 : Hid (Below w10.heap.size w10 w15) := B15
  clear hf14 hb14 hb15 B14 B15 T14 T15 y0 y1 y2 y3 b0 b1 b2 b3 MD3 U13
  have T15 := T.out w15 U15.out
  have x0 := T15.2.1.cel 0
  have x1 := T15.2.1.cel 1
  have x2 := T15.2.1.cel 2
  have x3 := T15.2.1.cel 3
  have x4 := T15.2.1.cel 4
  go_wp2_with fail
  clear x0 x1 x2 x3 x4
  refine (markPlan15 p wb5 yb5 bb5 rr5 wc.heap.size w6.heap.size w15 HS.out HS.out.2.1 (PW.out w15 T15.1.1).1).mono ?_
  rintro e w16 ⟨⟨m1, rfl, hm16⟩, hf16⟩
  have Z16 : Hid (Below w2.heap.size w2 w16 ∧ FmOwn V7.heap.size w16 f (.slice (some ⟨ob5, 0, none⟩) f.no f.no) (.slice (some ⟨pb5, 0, none⟩) f.np f.np) (.slice (some ⟨hb5, 0, none⟩) f.nh f.nh) r5 ∧ Box w16 yq 42 #[.bool f.ok, .slice (some ⟨ob5, 0, none⟩) f.no f.no, .slice (some ⟨pb5, 0, none⟩) f.np f.np, .slice (some ⟨hb5, 0, none⟩) f.nh f.nh] ∧ (St3 0 w16 n1 n2 n3 D1 D2 D3 s1 sc1 s2 sc2 s3 sc3 ∧ Box w16 sq 53 #[.slice s1 n1 sc1, .slice s2 n2 sc2, .slice s3 n3 sc3]) ∧ St3 V9.heap.size w16 n1 n2 n3 D1 D2 D3 g1 gc1 g2 gc2 g3 gc3 ∧ Box w16 gq 53 #[.slice g1 n1 gc1, .slice g2 n2 gc2, .slice g3 n3 gc3]) := by
   obtain ⟨z1, z2, z3, z4, z5, z6, z7⟩ := HSZ.out
   have z0 := HSB.out.1
   obtain ⟨⟨t1, t2, t3⟩, t4, t5, t6, ⟨⟨y1, y2, y3⟩, t7⟩, t8, t9⟩ := T15
   have hX : ∀ g, g < wc.heap.size → ¬ (wc.heap.size ≤ g ∧ g < w6.heap.size) := fun g hg => by omega
   exact ⟨t2.trans (hf16.below t2.size fun b hb (hX : wc.heap.size ≤ b ∧ b < w6.heap.size) => by omega), t5.fr_ge hf16 (fun b (hX : wc.heap.size ≤ b ∧ b < w6.heap.size) => by omega), t6.fr hf16 (fun (hX : wc.heap.size ≤ yq ∧ yq < w6.heap.size) => by omega), ⟨⟨y1.fr hf16 fun g hg => hX g (HSG.out g (Or.inl hg)), y2.fr hf16 fun g hg => hX g (HSG.out g (Or.inr (Or.inl hg))), y3.fr hf16 fun g hg => hX g (HSG.out g (Or.inr (Or.inr hg)))⟩, t7.fr hf16 (hX _ z0)⟩, t8.fr hf16 (fun b h1 h2 (hX : wc.heap.size ≤ b ∧ b < w6.heap.size) => by omega), t9.fr hf16 (fun (hX : wc.heap.size ≤ gq ∧ gq < w6.heap.size) => by omega)⟩
  clear T15 hf16 U15 T
  have y0 := Z16.out.2.2.1.cel 0
  have y1 := Z16.out.2.2.1.cel 1
  have y2 := Z16.out.2.2.1.cel 2
  have y3 := Z16.out.2.2.1.cel 3
  go_wp2_with fail
  clear y0 y1 y2 y3
  refine (mark16 V7.heap.size f (some ⟨ob5, 0, none⟩) (some ⟨pb5, 0, none⟩) (some ⟨hb5, 0, none⟩) f.no f.np f.nh r5 m1 w16 hm16 HFS.out (by have := HSZ.out; have := Z16.out.2.2.1.lt; omega) Z16.out.2.1).mono ?_
  rintro e w17 ⟨rfl, _, hf17, hk17⟩
  have Z17 : Hid (Below w2.heap.size w2 w17 ∧ (St3 0 w17 n1 n2 n3 D1 D2 D3 s1 sc1 s2 sc2 s3 sc3 ∧ Box w17 sq 53 #[.slice s1 n1 sc1, .slice s2 n2 sc2, .slice s3 n3 sc3]) ∧ St3 V9.heap.size w17 n1 n2 n3 D1 D2 D3 g1 gc1 g2 gc2 g3 gc3 ∧ Box w17 gq 53 #[.slice g1 n1 gc1, .slice g2 n2 gc2, .slice g3 n3 gc3]) := by
   obtain ⟨z1, z2, z3, z4, z5, z6, z7⟩ := HSZ.out
   have z0 := HSB.out.1
   obtain ⟨t1, _, _, ⟨⟨y1, y2, y3⟩, t4⟩, t5, t6⟩ := Z16.out
   have hX : ∀ g, g < wc.heap.size → ¬ (V7.heap.size ≤ g) := fun g hg => by omega
   exact ⟨t1.trans (hf17.below t1.size fun b hb (hX : V7.heap.size ≤ b) => by omega), ⟨⟨y1.fr hf17 fun g hg => hX g (HSG.out g (Or.inl hg)), y2.fr hf17 fun g hg => hX g (HSG.out g (Or.inr (Or.inl hg))), y3.fr hf17 fun g hg => hX g (HSG.out g (Or.inr (Or.inr hg)))⟩, t4.fr hf17 (hX _ z0)⟩, t5.by_ fun b cur hb => (hk17 b 3 cur hb (by decide) (by decide) (by decide)).trans hb.symm, hk17 gq 53 _ t6 (by decide) (by decide) (by decide)⟩
  clear hf17 hk17 Z16
  obtain ⟨kE, hkE⟩ : ∃ k, kEnd f m1 = k := ⟨_, rfl⟩
  rw [hkE]
  clear hkE
  have hkE0 : ¬ ((kE : Int) < 0) := by omega
  have x0 := Z17.out.2.1.2.cel 0
  have x1 := Z17.out.2.1.2.cel 1
  have x2 := Z17.out.2.1.2.cel 2
  have y0 := Z17.out.2.2.2.cel 0
  have y1 := Z17.out.2.2.2.cel 1
  have y2 := Z17.out.2.2.2.cel 2
  go_wp2_with fail
  clear x0 x1 x2 y0 y1 y2
  refine (eqStays26 g1 g2 g3 s1 s2 s3 gc1 gc2 gc3 sc1 sc2 sc3 n1 n2 n3 D1 D2 D3 w17 hm1 hm2 hm3 (Z17.out.2.2.1.1.vs.le (Nat.zero_le _)) (Z17.out.2.2.1.2.1.vs.le (Nat.zero_le _)) (Z17.out.2.2.1.2.2.vs.le (Nat.zero_le _)) (Z17.out.2.1.1.1.vs.le (Nat.zero_le _)) (Z17.out.2.1.1.2.1.vs.le (Nat.zero_le _)) (Z17.out.2.1.1.2.2.vs.le (Nat.zero_le _))).mono ?_
  rintro e w18 ⟨rfl, hb18⟩
  have Z18 : Hid (Below w2.heap.size w2 w18 ∧ (St3 0 w18 n1 n2 n3 D1 D2 D3 s1 sc1 s2 sc2 s3 sc3 ∧ Box w18 sq 53 #[.slice s1 n1 sc1, .slice s2 n2 sc2, .slice s3 n3 sc3]) ∧ St3 V9.heap.size w18 n1 n2 n3 D1 D2 D3 g1 gc1 g2 gc2 g3 gc3 ∧ Box w18 gq 53 #[.slice g1 n1 gc1, .slice g2 n2 gc2, .slice g3 n3 gc3]) := ⟨Z17.out.1.trans (hb18.mono Z17.out.1.size), ⟨Z17.out.2.1.1.mono nr hb18 nr, Z17.out.2.1.2.mono hb18 nr⟩, Z17.out.2.2.1.mono nr hb18 nr, Z17.out.2.2.2.mono hb18 nr⟩
  clear hb18 Z17
  have y0 := Z18.out.2.2.2.cel 0
  have y1 := Z18.out.2.2.2.cel 1
  have y2 := Z18.out.2.2.2.cel 2
  go_wp2_with fail
  clear y0 y1 y2
  refine (markStays27 V9.heap.size g1 g2 g3 gc1 gc2 gc3 n1 n2 n3 D1 D2 D3 w18 hm1 hm2 hm3 Z18.out.2.2.1.1 Z18.out.2.2.1.2.1 Z18.out.2.2.1.2.2 HAP.out.1 HAP.out.2).mono ?_
  rintro e w19 ⟨rfl, y1, y2, y3, hf19⟩
  have Z19 : Hid (Below w2.heap.size w2 w19 ∧ (St3 0 w19 n1 n2 n3 D1 D2 D3 s1 sc1 s2 sc2 s3 sc3 ∧ Box w19 sq 53 #[.slice s1 n1 sc1, .slice s2 n2 sc2, .slice s3 n3 sc3]) ∧ St3 V9.heap.size w19 n1 n2 n3 (mkI 1) (mkI (1 + n1)) (mkI (1 + n1 + n2)) g1 gc1 g2 gc2 g3 gc3 ∧ Box w19 gq 53 #[.slice g1 n1 gc1, .slice g2 n2 gc2, .slice g3 n3 gc3]) := by
   obtain ⟨z1, z2, z3, z4, z5, z6, z7⟩ := HSZ.out
   have z0 := HSB.out.1
   obtain ⟨t1, ⟨⟨x1, x2, x3⟩, t4⟩, ⟨u1, u2, u3⟩, t6⟩ := Z18.out
   have hX : ∀ g, g < V9.heap.size → ¬ ((Value.slice g1 n1 gc1).ownBlock = some g ∨ (Value.slice g2 n2 gc2).ownBlock = some g ∨ (Value.slice g3 n3 gc3).ownBlock = some g) := fun g hg h => by
    rcases h with h | h | h
    ·
     have := (u1.lt h).1; omega
    ·
     have := (u2.lt h).1; omega
    ·
     have := (u3.lt h).1; omega
   refine ⟨t1.trans (hf19.below t1.size fun b hb => hX b (by omega)), ⟨⟨x1.fr hf19 fun g hg => hX g (by have := HSG.out g (Or.inl hg); omega), x2.fr hf19 fun g hg => hX g (by have := HSG.out g (Or.inr (Or.inl hg)); omega), x3.fr hf19 fun g hg => hX g (by have := HSG.out g (Or.inr (Or.inr hg)); omega)⟩, t4.fr hf19 (hX _ (by omega))⟩, ⟨y1, y2, y3⟩, t6.fr hf19 fun h => ?_⟩
   rcases h with h | h | h
   ·
    exact u1.off t6 (by decide) h rfl
   ·
    exact u2.off t6 (by decide) h rfl
   ·
    exact u3.off t6 (by decide) h rfl
  clear y1 y2 y3 hf19 Z18
  obtain ⟨mE, hmE⟩ : ∃ k, Hid (1 + n1 + n2 + n3 = k) := ⟨_, rfl⟩
  rw [hmE.out]
  have hmE0 : ¬ ((mE : Int) < 0) := by omega
  have y0 := Z19.out.2.2.2.cel 0
  have y1 := Z19.out.2.2.2.cel 1
  have y2 := Z19.out.2.2.2.cel 2
  go_wp2_with fail
  clear y0 y1 y2
  refine (heldStays28 g1 g2 g3 gc1 gc2 gc3 n1 n2 n3 w19 hm1 hm2 hm3 (Z19.out.2.2.1.1.vs.le (Nat.zero_le _)) (Z19.out.2.2.1.2.1.vs.le (Nat.zero_le _)) (Z19.out.2.2.1.2.2.vs.le (Nat.zero_le _))).mono ?_
  rintro e w20 ⟨rfl, hb20⟩
  have Z20 : Hid (Below w2.heap.size w2 w20 ∧ (St3 0 w20 n1 n2 n3 D1 D2 D3 s1 sc1 s2 sc2 s3 sc3 ∧ Box w20 sq 53 #[.slice s1 n1 sc1, .slice s2 n2 sc2, .slice s3 n3 sc3]) ∧ St3 V9.heap.size w20 n1 n2 n3 (mkI 1) (mkI (1 + n1)) (mkI (1 + n1 + n2)) g1 gc1 g2 gc2 g3 gc3 ∧ Box w20 gq 53 #[.slice g1 n1 gc1, .slice g2 n2 gc2, .slice g3 n3 gc3]) := ⟨Z19.out.1.trans (hb20.mono Z19.out.1.size), ⟨Z19.out.2.1.1.mono nr hb20 nr, Z19.out.2.1.2.mono hb20 nr⟩, Z19.out.2.2.1.mono nr hb20 nr, Z19.out.2.2.2.mono hb20 nr⟩
  clear hb20 Z19
  rw [hmE.out]
  have zz : ((mE : Int) != (mE : Int)) = false := by simp
  have HQ : Hid (∀ W, Below w20.heap.size w20 W → Below w2.heap.size w2 W) := fun W h => Z20.out.1.trans (h.mono Z20.out.1.size)
  go_upto_region 31 with fail
  go_cut [15] from 16 (fun s15 wx => ∃ (tq : Nat) (j1 : Option Addr) (jc1 : Nat) (j2 : Option Addr) (jc2 : Nat) (j3 : Option Addr) (jc3 : Nat), s15 = .pointer (some ⟨tq, 0, none⟩) ∧ Hid (Below w20.heap.size w20 wx ∧ w20.heap.size ≤ tq ∧ Box wx tq 53 #[.slice j1 n1 jc1, .slice j2 n2 jc2, .slice j3 n3 jc3] ∧ St3 w20.heap.size wx n1 n2 n3 D1 D2 D3 j1 jc1 j2 jc2 j3 jc3))
  case first =>
   have HB0 : Hid (Below w20.heap.size w20 w20.drew) := (Below.refl _ _).drew
   have a0 : w20.cell? ⟨w.heap.size, 0, none⟩ = some (.int .i64 p.sec) := (HC.out _ (HQ.out _ (Below.refl _ w20))).2.1.cell 0
   have a1 : w20.cell? ⟨w.heap.size, 1, none⟩ = some (.slice wa p.nw wk) := (HC.out _ (HQ.out _ (Below.refl _ w20))).2.1.cell 1
   have a2 : w20.cell? ⟨w.heap.size, 2, none⟩ = some (.slice ya p.ny yc) := (HC.out _ (HQ.out _ (Below.refl _ w20))).2.1.cell 2
   have a3 : w20.cell? ⟨w.heap.size, 3, none⟩ = some (.slice ba p.nb bc) := (HC.out _ (HQ.out _ (Below.refl _ w20))).2.1.cell 3
   have a4 : w20.cell? ⟨w.heap.size, 4, none⟩ = some (.int .i64 p.hold) := (HC.out _ (HQ.out _ (Below.refl _ w20))).2.1.cell 4
   have b0 : w20.cell? ⟨(w.heap.size + 1), 0, none⟩ = some (.bool f.ok) := (HC.out _ (HQ.out _ (Below.refl _ w20))).2.2.cell 0
   have b1 : w20.cell? ⟨(w.heap.size + 1), 1, none⟩ = some (.slice oa f.no oc) := (HC.out _ (HQ.out _ (Below.refl _ w20))).2.2.cell 1
   have b2 : w20.cell? ⟨(w.heap.size + 1), 2, none⟩ = some (.slice pa f.np pc) := (HC.out _ (HQ.out _ (Below.refl _ w20))).2.2.cell 2
   have b3 : w20.cell? ⟨(w.heap.size + 1), 3, none⟩ = some (.slice ha f.nh hc) := (HC.out _ (HQ.out _ (Below.refl _ w20))).2.2.cell 3
   go_wp2_with fail
   refine wp_region_held_drew (S := (fun wx : World => wx.cell? ⟨w.heap.size, 0, none⟩ = some (.int .i64 p.sec) ∧ wx.cell? ⟨w.heap.size, 1, none⟩ = some (.slice wa p.nw wk) ∧ wx.cell? ⟨w.heap.size, 2, none⟩ = some (.slice ya p.ny yc) ∧ wx.cell? ⟨w.heap.size, 3, none⟩ = some (.slice ba p.nb bc) ∧ wx.cell? ⟨w.heap.size, 4, none⟩ = some (.int .i64 p.hold) ∧ wx.cell? ⟨(w.heap.size + 1), 0, none⟩ = some (.bool f.ok) ∧ wx.cell? ⟨(w.heap.size + 1), 1, none⟩ = some (.slice oa f.no oc) ∧ wx.cell? ⟨(w.heap.size + 1), 2, none⟩ = some (.slice pa f.np pc) ∧ wx.cell? ⟨(w.heap.size + 1), 3, none⟩ = some (.slice ha f.nh hc))) (by kernel_rfl) ?_ (fun hHeld => ?_)
   ·
    exact ⟨a0, a1, a2, a3, a4, b0, b1, b2, b3⟩
   clear a0 a1 a2 a3 a4 b0 b1 b2 b3
   generalize w20.drew = VD at HB0 hHeld ⊢
   refine tk 0 ?_
   refine tk 2 ?_
   refine tk 4 ?_
   refine ready2_lit (i := 1) (j := 6) (by kernel_rfl) rfl rfl (fun K hK => ?_) (fun K hK => ?_)
   ·
    go_simp
    refine (HTP.out _ (HQ.out _ HB0.out)).mono ?_
    rintro e w0x19 ⟨wbx, ybx, bbx, lox, rrx, rfl, ho, hb⟩
    have HP1 : Hid (PlOwn 0 w0x19 p wbx ybx bbx lox rrx) := ho.mono (Nat.zero_le _) (Below.refl _ _) nr
    have HB1 : Hid (Below w20.heap.size w20 w0x19) := HB0.out.trans (hb.mono HB0.out.size)
    clear hb
    go_wp2_with fail
    refine hK.out _ _ ?_ (fun hHeldX => ?_)
    ·
     exact ⟨(HC.out _ (HQ.out _ HB1.out)).2.1.cell 0, (HC.out _ (HQ.out _ HB1.out)).2.1.cell 1, (HC.out _ (HQ.out _ HB1.out)).2.1.cell 2, (HC.out _ (HQ.out _ HB1.out)).2.1.cell 3, (HC.out _ (HQ.out _ HB1.out)).2.1.cell 4, (HC.out _ (HQ.out _ HB1.out)).2.2.cell 0, (HC.out _ (HQ.out _ HB1.out)).2.2.cell 1, (HC.out _ (HQ.out _ HB1.out)).2.2.cell 2, (HC.out _ (HQ.out _ HB1.out)).2.2.cell 3⟩
    clear hK K
    refine ready2_lit (i := 3) (j := 6) (by kernel_rfl) rfl rfl (fun K hK => ?_) (fun K hK => ?_)
    ·
     go_simp
     refine (HTF.out _ (HQ.out _ HB1.out)).mono ?_
     rintro e w1x20 ⟨obx, pbx, hbx, rx, rfl, hf, hb⟩
     have HP2 : Hid (PlOwn 0 w1x20 p wbx ybx bbx lox rrx) := HP1.out.mono nr hb nr
     have HF2 : Hid (FmOwn 0 w1x20 f (.slice (some ⟨obx, 0, none⟩) f.no f.no) (.slice (some ⟨pbx, 0, none⟩) f.np f.np) (.slice (some ⟨hbx, 0, none⟩) f.nh f.nh) rx) := hf.mono (Nat.zero_le _) (Below.refl _ _) nr
     have HB2 : Hid (Below w20.heap.size w20 w1x20) := HB1.out.trans (hb.mono HB1.out.size)
     clear hb
     go_wp2_with fail
     refine hK.out _ _ ?_ (fun hHeldX => ?_)
     ·
      exact ⟨(HC.out _ (HQ.out _ HB2.out)).2.1.cell 0, (HC.out _ (HQ.out _ HB2.out)).2.1.cell 1, (HC.out _ (HQ.out _ HB2.out)).2.1.cell 2, (HC.out _ (HQ.out _ HB2.out)).2.1.cell 3, (HC.out _ (HQ.out _ HB2.out)).2.1.cell 4, (HC.out _ (HQ.out _ HB2.out)).2.2.cell 0, (HC.out _ (HQ.out _ HB2.out)).2.2.cell 1, (HC.out _ (HQ.out _ HB2.out)).2.2.cell 2, (HC.out _ (HQ.out _ HB2.out)).2.2.cell 3⟩
     clear hK K
     refine ready2_lit (i := 5) (j := 6) (by kernel_rfl) rfl rfl (fun K hK => ?_) (fun K hK => ?_)
     ·
      go_simp
      refine (blocked25 p f wbx ybx bbx lox rrx obx pbx hbx rx et t4 t5 ev v4 v5 kk w1x20 HS.out HFS.out HP2.out HF2.out (HEL.out _ (HQ.out _ HB2.out)).1 (HEL.out _ (HQ.out _ HB2.out)).2.1 (HEL.out _ (HQ.out _ HB2.out)).2.2.1 (HEL.out _ (HQ.out _ HB2.out)).2.2.2).mono ?_
      rintro e w2x21 ⟨j1, jc1, j2, jc2, j3, jc3, he, h1, h2, h3, _, _, hb⟩
      rw [HN1.out, HN2.out, HN3.out] at he
      rw [HN1.out, HD1.out] at h1
      rw [HN2.out, HD2.out] at h2
      rw [HN3.out, HD3.out] at h3
      subst he
      have HO3 : Hid (St3 w20.heap.size w2x21 n1 n2 n3 D1 D2 D3 j1 jc1 j2 jc2 j3 jc3) := ⟨h1.keep HB2.out.size fun _ _ => rfl, h2.keep HB2.out.size fun _ _ => rfl, h3.keep HB2.out.size fun _ _ => rfl⟩
      have HB3 : Hid (Below w20.heap.size w20 w2x21) := HB2.out.trans (hb.mono HB2.out.size)
      clear hb
      go_wp2_with fail
      refine hK.out _ _ ?_ (fun hHeldX => ?_)
      ·
       exact ⟨(HC.out _ (HQ.out _ HB3.out)).2.1.cell 0, (HC.out _ (HQ.out _ HB3.out)).2.1.cell 1, (HC.out _ (HQ.out _ HB3.out)).2.1.cell 2, (HC.out _ (HQ.out _ HB3.out)).2.1.cell 3, (HC.out _ (HQ.out _ HB3.out)).2.1.cell 4, (HC.out _ (HQ.out _ HB3.out)).2.2.cell 0, (HC.out _ (HQ.out _ HB3.out)).2.2.cell 1, (HC.out _ (HQ.out _ HB3.out)).2.2.cell 2, (HC.out _ (HQ.out _ HB3.out)).2.2.cell 3⟩
      clear hK K
      refine rl 6 fun K hK => ?_
      have HA : Hid (Below w20.heap.size w20 (w2x21.alloc (.cells #[.slice none 0 0, .slice none 0 0, .slice none 0 0] 53)) ∧ Box (w2x21.alloc (.cells #[.slice none 0 0, .slice none 0 0, .slice none 0 0] 53)) w2x21.heap.size 53 #[.slice none 0 0, .slice none 0 0, .slice none 0 0] ∧ w20.heap.size ≤ w2x21.heap.size) := ⟨HB3.out.alloc HB3.out.size _, Box.new _ _ _, HB3.out.size⟩
      have HOA : Hid (St3 w20.heap.size (w2x21.alloc (.cells #[.slice none 0 0, .slice none 0 0, .slice none 0 0] 53)) n1 n2 n3 D1 D2 D3 j1 jc1 j2 jc2 j3 jc3) := HO3.out.mono nr (bel1 _ _) nr
      go_simp
      refine hK.out _ _ ?_ (fun hHeldX => ?_)
      ·
       exact ⟨(HC.out _ (HQ.out _ HA.out.1)).2.1.cell 0, (HC.out _ (HQ.out _ HA.out.1)).2.1.cell 1, (HC.out _ (HQ.out _ HA.out.1)).2.1.cell 2, (HC.out _ (HQ.out _ HA.out.1)).2.1.cell 3, (HC.out _ (HQ.out _ HA.out.1)).2.1.cell 4, (HC.out _ (HQ.out _ HA.out.1)).2.2.cell 0, (HC.out _ (HQ.out _ HA.out.1)).2.2.cell 1, (HC.out _ (HQ.out _ HA.out.1)).2.2.cell 2, (HC.out _ (HQ.out _ HA.out.1)).2.2.cell 3⟩
      clear hK K
      generalize w2x21.alloc (.cells #[.slice none 0 0, .slice none 0 0, .slice none 0 0] 53) = V3x22 at HA HOA ⊢
      generalize w2x21.heap.size = tq at HA ⊢
      have HTQ : Hid (w20.heap.size ≤ tq) := HA.out.2.2
      have TB3 : Hid (Box V3x22 tq 53 #[.slice none 0 0, .slice none 0 0, .slice none 0 0]) := HA.out.2.1
      clear HB3
      have HB3 : Hid (Below w20.heap.size w20 V3x22) := HA.out.1
      clear HA
      clear HO3
      have HO3 := HOA
      clear HOA
      have z0 := TB3.out.cel 0
      have z1 := TB3.out.cel 1
      have z2 := TB3.out.cel 2
      have f0 := TB3.out.free 0
      have f1 := TB3.out.free 1
      have f2 := TB3.out.free 2
      have HF : Hid (Below w20.heap.size w20 (((V3x22.setCell ⟨tq, 0, none⟩ (.slice j1 n1 jc1)).setCell ⟨tq, 1, none⟩ (.slice j2 n2 jc2)).setCell ⟨tq, 2, none⟩ (.slice j3 n3 jc3)) ∧ w20.heap.size ≤ tq ∧ Box (((V3x22.setCell ⟨tq, 0, none⟩ (.slice j1 n1 jc1)).setCell ⟨tq, 1, none⟩ (.slice j2 n2 jc2)).setCell ⟨tq, 2, none⟩ (.slice j3 n3 jc3)) tq 53 #[.slice j1 n1 jc1, .slice j2 n2 jc2, .slice j3 n3 jc3] ∧ St3 w20.heap.size (((V3x22.setCell ⟨tq, 0, none⟩ (.slice j1 n1 jc1)).setCell ⟨tq, 1, none⟩ (.slice j2 n2 jc2)).setCell ⟨tq, 2, none⟩ (.slice j3 n3 jc3)) n1 n2 n3 D1 D2 D3 j1 jc1 j2 jc2 j3 jc3) := fin4 HB3.out HTQ.out TB3.out HO3.out
      refine rl 7 fun K hK => ?_
      go_simp
      refine hK.out _ _ ?_ (fun hHeldX => ?_)
      ·
       exact ⟨(HC.out _ (HQ.out _ HF.out.1)).2.1.cell 0, (HC.out _ (HQ.out _ HF.out.1)).2.1.cell 1, (HC.out _ (HQ.out _ HF.out.1)).2.1.cell 2, (HC.out _ (HQ.out _ HF.out.1)).2.1.cell 3, (HC.out _ (HQ.out _ HF.out.1)).2.1.cell 4, (HC.out _ (HQ.out _ HF.out.1)).2.2.cell 0, (HC.out _ (HQ.out _ HF.out.1)).2.2.cell 1, (HC.out _ (HQ.out _ HF.out.1)).2.2.cell 2, (HC.out _ (HQ.out _ HF.out.1)).2.2.cell 3⟩
      clear hK K
      refine wpAnyH_done (by kernel_rfl) ?_ _
      clear z0 z1 z2 f0 f1 f2
      go_wp2_with fail
      go_meet
      case rel => exact ⟨tq, j1, jc1, j2, jc2, j3, jc3, rfl, HF⟩
     ·
      have HA : Hid (Below w20.heap.size w20 (w1x20.alloc (.cells #[.slice none 0 0, .slice none 0 0, .slice none 0 0] 53)) ∧ Box (w1x20.alloc (.cells #[.slice none 0 0, .slice none 0 0, .slice none 0 0] 53)) w1x20.heap.size 53 #[.slice none 0 0, .slice none 0 0, .slice none 0 0] ∧ w20.heap.size ≤ w1x20.heap.size) := ⟨HB2.out.alloc HB2.out.size _, Box.new _ _ _, HB2.out.size⟩
      have HPA : Hid (PlOwn 0 (w1x20.alloc (.cells #[.slice none 0 0, .slice none 0 0, .slice none 0 0] 53)) p wbx ybx bbx lox rrx) := HP2.out.mono nr (bel1 _ _) nr
      have HFA : Hid (FmOwn 0 (w1x20.alloc (.cells #[.slice none 0 0, .slice none 0 0, .slice none 0 0] 53)) f (.slice (some ⟨obx, 0, none⟩) f.no f.no) (.slice (some ⟨pbx, 0, none⟩) f.np f.np) (.slice (some ⟨hbx, 0, none⟩) f.nh f.nh) rx) := HF2.out.mono nr (bel1 _ _) nr
      go_simp
      refine hK.out _ _ ?_ (fun hHeldX => ?_)
      ·
       exact ⟨(HC.out _ (HQ.out _ HA.out.1)).2.1.cell 0, (HC.out _ (HQ.out _ HA.out.1)).2.1.cell 1, (HC.out _ (HQ.out _ HA.out.1)).2.1.cell 2, (HC.out _ (HQ.out _ HA.out.1)).2.1.cell 3, (HC.out _ (HQ.out _ HA.out.1)).2.1.cell 4, (HC.out _ (HQ.out _ HA.out.1)).2.2.cell 0, (HC.out _ (HQ.out _ HA.out.1)).2.2.cell 1, (HC.out _ (HQ.out _ HA.out.1)).2.2.cell 2, (HC.out _ (HQ.out _ HA.out.1)).2.2.cell 3⟩
      clear hK K
      generalize w1x20.alloc (.cells #[.slice none 0 0, .slice none 0 0, .slice none 0 0] 53) = V2x23 at HA HPA HFA ⊢
      generalize w1x20.heap.size = tq at HA ⊢
      have HTQ : Hid (w20.heap.size ≤ tq) := HA.out.2.2
      have TB2 : Hid (Box V2x23 tq 53 #[.slice none 0 0, .slice none 0 0, .slice none 0 0]) := HA.out.2.1
      clear HB2
      have HB2 : Hid (Below w20.heap.size w20 V2x23) := HA.out.1
      clear HA
      clear HP2
      have HP2 := HPA
      clear HPA
      clear HF2
      have HF2 := HFA
      clear HFA
      refine rl 5 fun K hK => ?_
      go_simp
      refine (blocked25 p f wbx ybx bbx lox rrx obx pbx hbx rx et t4 t5 ev v4 v5 kk V2x23 HS.out HFS.out HP2.out HF2.out (HEL.out _ (HQ.out _ HB2.out)).1 (HEL.out _ (HQ.out _ HB2.out)).2.1 (HEL.out _ (HQ.out _ HB2.out)).2.2.1 (HEL.out _ (HQ.out _ HB2.out)).2.2.2).mono ?_
      rintro e w2x24 ⟨j1, jc1, j2, jc2, j3, jc3, he, h1, h2, h3, _, _, hb⟩
      rw [HN1.out, HN2.out, HN3.out] at he
      rw [HN1.out, HD1.out] at h1
      rw [HN2.out, HD2.out] at h2
      rw [HN3.out, HD3.out] at h3
      subst he
      have HO3 : Hid (St3 w20.heap.size w2x24 n1 n2 n3 D1 D2 D3 j1 jc1 j2 jc2 j3 jc3) := ⟨h1.keep HB2.out.size fun _ _ => rfl, h2.keep HB2.out.size fun _ _ => rfl, h3.keep HB2.out.size fun _ _ => rfl⟩
      have HB3 : Hid (Below w20.heap.size w20 w2x24) := HB2.out.trans (hb.mono HB2.out.size)
      have TB3 : Hid (Box w2x24 tq 53 #[.slice none 0 0, .slice none 0 0, .slice none 0 0]) := TB2.out.mono hb nr
      clear hb
      go_wp2_with fail
      refine hK.out _ _ ?_ (fun hHeldX => ?_)
      ·
       exact ⟨(HC.out _ (HQ.out _ HB3.out)).2.1.cell 0, (HC.out _ (HQ.out _ HB3.out)).2.1.cell 1, (HC.out _ (HQ.out _ HB3.out)).2.1.cell 2, (HC.out _ (HQ.out _ HB3.out)).2.1.cell 3, (HC.out _ (HQ.out _ HB3.out)).2.1.cell 4, (HC.out _ (HQ.out _ HB3.out)).2.2.cell 0, (HC.out _ (HQ.out _ HB3.out)).2.2.cell 1, (HC.out _ (HQ.out _ HB3.out)).2.2.cell 2, (HC.out _ (HQ.out _ HB3.out)).2.2.cell 3⟩
      clear hK K
      have z0 := TB3.out.cel 0
      have z1 := TB3.out.cel 1
      have z2 := TB3.out.cel 2
      have f0 := TB3.out.free 0
      have f1 := TB3.out.free 1
      have f2 := TB3.out.free 2
      have HF : Hid (Below w20.heap.size w20 (((w2x24.setCell ⟨tq, 0, none⟩ (.slice j1 n1 jc1)).setCell ⟨tq, 1, none⟩ (.slice j2 n2 jc2)).setCell ⟨tq, 2, none⟩ (.slice j3 n3 jc3)) ∧ w20.heap.size ≤ tq ∧ Box (((w2x24.setCell ⟨tq, 0, none⟩ (.slice j1 n1 jc1)).setCell ⟨tq, 1, none⟩ (.slice j2 n2 jc2)).setCell ⟨tq, 2, none⟩ (.slice j3 n3 jc3)) tq 53 #[.slice j1 n1 jc1, .slice j2 n2 jc2, .slice j3 n3 jc3] ∧ St3 w20.heap.size (((w2x24.setCell ⟨tq, 0, none⟩ (.slice j1 n1 jc1)).setCell ⟨tq, 1, none⟩ (.slice j2 n2 jc2)).setCell ⟨tq, 2, none⟩ (.slice j3 n3 jc3)) n1 n2 n3 D1 D2 D3 j1 jc1 j2 jc2 j3 jc3) := fin4 HB3.out HTQ.out TB3.out HO3.out
      refine rl 7 fun K hK => ?_
      go_simp
      refine hK.out _ _ ?_ (fun hHeldX => ?_)
      ·
       exact ⟨(HC.out _ (HQ.out _ HF.out.1)).2.1.cell 0, (HC.out _ (HQ.out _ HF.out.1)).2.1.cell 1, (HC.out _ (HQ.out _ HF.out.1)).2.1.cell 2, (HC.out _ (HQ.out _ HF.out.1)).2.1.cell 3, (HC.out _ (HQ.out _ HF.out.1)).2.1.cell 4, (HC.out _ (HQ.out _ HF.out.1)).2.2.cell 0, (HC.out _ (HQ.out _ HF.out.1)).2.2.cell 1, (HC.out _ (HQ.out _ HF.out.1)).2.2.cell 2, (HC.out _ (HQ.out _ HF.out.1)).2.2.cell 3⟩
      clear hK K
      refine wpAnyH_done (by kernel_rfl) ?_ _
      clear z0 z1 z2 f0 f1 f2
      go_wp2_with fail
      go_meet
      case rel => exact ⟨tq, j1, jc1, j2, jc2, j3, jc3, rfl, HF⟩
    ·
     have HA : Hid (Below w20.heap.size w20 (w0x19.alloc (.cells #[.slice none 0 0, .slice none 0 0, .slice none 0 0] 53)) ∧ Box (w0x19.alloc (.cells #[.slice none 0 0, .slice none 0 0, .slice none 0 0] 53)) w0x19.heap.size 53 #[.slice none 0 0, .slice none 0 0, .slice none 0 0] ∧ w20.heap.size ≤ w0x19.heap.size) := ⟨HB1.out.alloc HB1.out.size _, Box.new _ _ _, HB1.out.size⟩
     have HPA : Hid (PlOwn 0 (w0x19.alloc (.cells #[.slice none 0 0, .slice none 0 0, .slice none 0 0] 53)) p wbx ybx bbx lox rrx) := HP1.out.mono nr (bel1 _ _) nr
     go_simp
     refine hK.out _ _ ?_ (fun hHeldX => ?_)
     ·
      exact ⟨(HC.out _ (HQ.out _ HA.out.1)).2.1.cell 0, (HC.out _ (HQ.out _ HA.out.1)).2.1.cell 1, (HC.out _ (HQ.out _ HA.out.1)).2.1.cell 2, (HC.out _ (HQ.out _ HA.out.1)).2.1.cell 3, (HC.out _ (HQ.out _ HA.out.1)).2.1.cell 4, (HC.out _ (HQ.out _ HA.out.1)).2.2.cell 0, (HC.out _ (HQ.out _ HA.out.1)).2.2.cell 1, (HC.out _ (HQ.out _ HA.out.1)).2.2.cell 2, (HC.out _ (HQ.out _ HA.out.1)).2.2.cell 3⟩
     clear hK K
     generalize w0x19.alloc (.cells #[.slice none 0 0, .slice none 0 0, .slice none 0 0] 53) = V1x25 at HA HPA ⊢
     generalize w0x19.heap.size = tq at HA ⊢
     have HTQ : Hid (w20.heap.size ≤ tq) := HA.out.2.2
     have TB1 : Hid (Box V1x25 tq 53 #[.slice none 0 0, .slice none 0 0, .slice none 0 0]) := HA.out.2.1
     clear HB1
     have HB1 : Hid (Below w20.heap.size w20 V1x25) := HA.out.1
     clear HA
     clear HP1
     have HP1 := HPA
     clear HPA
     refine rl 3 fun K hK => ?_
     go_simp
     refine (HTF.out _ (HQ.out _ HB1.out)).mono ?_
     rintro e w1x26 ⟨obx, pbx, hbx, rx, rfl, hf, hb⟩
     have HP2 : Hid (PlOwn 0 w1x26 p wbx ybx bbx lox rrx) := HP1.out.mono nr hb nr
     have HF2 : Hid (FmOwn 0 w1x26 f (.slice (some ⟨obx, 0, none⟩) f.no f.no) (.slice (some ⟨pbx, 0, none⟩) f.np f.np) (.slice (some ⟨hbx, 0, none⟩) f.nh f.nh) rx) := hf.mono (Nat.zero_le _) (Below.refl _ _) nr
     have HB2 : Hid (Below w20.heap.size w20 w1x26) := HB1.out.trans (hb.mono HB1.out.size)
     have TB2 : Hid (Box w1x26 tq 53 #[.slice none 0 0, .slice none 0 0, .slice none 0 0]) := TB1.out.mono hb nr
     clear hb
     go_wp2_with fail
     refine hK.out _ _ ?_ (fun hHeldX => ?_)
     ·
      exact ⟨(HC.out _ (HQ.out _ HB2.out)).2.1.cell 0, (HC.out _ (HQ.out _ HB2.out)).2.1.cell 1, (HC.out _ (HQ.out _ HB2.out)).2.1.cell 2, (HC.out _ (HQ.out _ HB2.out)).2.1.cell 3, (HC.out _ (HQ.out _ HB2.out)).2.1.cell 4, (HC.out _ (HQ.out _ HB2.out)).2.2.cell 0, (HC.out _ (HQ.out _ HB2.out)).2.2.cell 1, (HC.out _ (HQ.out _ HB2.out)).2.2.cell 2, (HC.out _ (HQ.out _ HB2.out)).2.2.cell 3⟩
     clear hK K
     refine rl 5 fun K hK => ?_
     go_simp
     refine (blocked25 p f wbx ybx bbx lox rrx obx pbx hbx rx et t4 t5 ev v4 v5 kk w1x26 HS.out HFS.out HP2.out HF2.out (HEL.out _ (HQ.out _ HB2.out)).1 (HEL.out _ (HQ.out _ HB2.out)).2.1 (HEL.out _ (HQ.out _ HB2.out)).2.2.1 (HEL.out _ (HQ.out _ HB2.out)).2.2.2).mono ?_
     rintro e w2x27 ⟨j1, jc1, j2, jc2, j3, jc3, he, h1, h2, h3, _, _, hb⟩
     rw [HN1.out, HN2.out, HN3.out] at he
     rw [HN1.out, HD1.out] at h1
     rw [HN2.out, HD2.out] at h2
     rw [HN3.out, HD3.out] at h3
     subst he
     have HO3 : Hid (St3 w20.heap.size w2x27 n1 n2 n3 D1 D2 D3 j1 jc1 j2 jc2 j3 jc3) := ⟨h1.keep HB2.out.size fun _ _ => rfl, h2.keep HB2.out.size fun _ _ => rfl, h3.keep HB2.out.size fun _ _ => rfl⟩
     have HB3 : Hid (Below w20.heap.size w20 w2x27) := HB2.out.trans (hb.mono HB2.out.size)
     have TB3 : Hid (Box w2x27 tq 53 #[.slice none 0 0, .slice none 0 0, .slice none 0 0]) := TB2.out.mono hb nr
     clear hb
     go_wp2_with fail
     refine hK.out _ _ ?_ (fun hHeldX => ?_)
     ·
      exact ⟨(HC.out _ (HQ.out _ HB3.out)).2.1.cell 0, (HC.out _ (HQ.out _ HB3.out)).2.1.cell 1, (HC.out _ (HQ.out _ HB3.out)).2.1.cell 2, (HC.out _ (HQ.out _ HB3.out)).2.1.cell 3, (HC.out _ (HQ.out _ HB3.out)).2.1.cell 4, (HC.out _ (HQ.out _ HB3.out)).2.2.cell 0, (HC.out _ (HQ.out _ HB3.out)).2.2.cell 1, (HC.out _ (HQ.out _ HB3.out)).2.2.cell 2, (HC.out _ (HQ.out _ HB3.out)).2.2.cell 3⟩
     clear hK K
     have z0 := TB3.out.cel 0
     have z1 := TB3.out.cel 1
     have z2 := TB3.out.cel 2
     have f0 := TB3.out.free 0
     have f1 := TB3.out.free 1
     have f2 := TB3.out.free 2
     have HF : Hid (Below w20.heap.size w20 (((w2x27.setCell ⟨tq, 0, none⟩ (.slice j1 n1 jc1)).setCell ⟨tq, 1, none⟩ (.slice j2 n2 jc2)).setCell ⟨tq, 2, none⟩ (.slice j3 n3 jc3)) ∧ w20.heap.size ≤ tq ∧ Box (((w2x27.setCell ⟨tq, 0, none⟩ (.slice j1 n1 jc1)).setCell ⟨tq, 1, none⟩ (.slice j2 n2 jc2)).setCell ⟨tq, 2, none⟩ (.slice j3 n3 jc3)) tq 53 #[.slice j1 n1 jc1, .slice j2 n2 jc2, .slice j3 n3 jc3] ∧ St3 w20.heap.size (((w2x27.setCell ⟨tq, 0, none⟩ (.slice j1 n1 jc1)).setCell ⟨tq, 1, none⟩ (.slice j2 n2 jc2)).setCell ⟨tq, 2, none⟩ (.slice j3 n3 jc3)) n1 n2 n3 D1 D2 D3 j1 jc1 j2 jc2 j3 jc3) := fin4 HB3.out HTQ.out TB3.out HO3.out
     refine rl 7 fun K hK => ?_
     go_simp
     refine hK.out _ _ ?_ (fun hHeldX => ?_)
     ·
      exact ⟨(HC.out _ (HQ.out _ HF.out.1)).2.1.cell 0, (HC.out _ (HQ.out _ HF.out.1)).2.1.cell 1, (HC.out _ (HQ.out _ HF.out.1)).2.1.cell 2, (HC.out _ (HQ.out _ HF.out.1)).2.1.cell 3, (HC.out _ (HQ.out _ HF.out.1)).2.1.cell 4, (HC.out _ (HQ.out _ HF.out.1)).2.2.cell 0, (HC.out _ (HQ.out _ HF.out.1)).2.2.cell 1, (HC.out _ (HQ.out _ HF.out.1)).2.2.cell 2, (HC.out _ (HQ.out _ HF.out.1)).2.2.cell 3⟩
     clear hK K
     refine wpAnyH_done (by kernel_rfl) ?_ _
     clear z0 z1 z2 f0 f1 f2
     go_wp2_with fail
     go_meet
     case rel => exact ⟨tq, j1, jc1, j2, jc2, j3, jc3, rfl, HF⟩
   ·
    have HA : Hid (Below w20.heap.size w20 (VD.alloc (.cells #[.slice none 0 0, .slice none 0 0, .slice none 0 0] 53)) ∧ Box (VD.alloc (.cells #[.slice none 0 0, .slice none 0 0, .slice none 0 0] 53)) VD.heap.size 53 #[.slice none 0 0, .slice none 0 0, .slice none 0 0] ∧ w20.heap.size ≤ VD.heap.size) := ⟨HB0.out.alloc HB0.out.size _, Box.new _ _ _, HB0.out.size⟩
    go_simp
    refine hK.out _ _ ?_ (fun hHeldX => ?_)
    ·
     exact ⟨(HC.out _ (HQ.out _ HA.out.1)).2.1.cell 0, (HC.out _ (HQ.out _ HA.out.1)).2.1.cell 1, (HC.out _ (HQ.out _ HA.out.1)).2.1.cell 2, (HC.out _ (HQ.out _ HA.out.1)).2.1.cell 3, (HC.out _ (HQ.out _ HA.out.1)).2.1.cell 4, (HC.out _ (HQ.out _ HA.out.1)).2.2.cell 0, (HC.out _ (HQ.out _ HA.out.1)).2.2.cell 1, (HC.out _ (HQ.out _ HA.out.1)).2.2.cell 2, (HC.out _ (HQ.out _ HA.out.1)).2.2.cell 3⟩
    clear hK K
    generalize VD.alloc (.cells #[.slice none 0 0, .slice none 0 0, .slice none 0 0] 53) = V0x28 at HA ⊢
    generalize VD.heap.size = tq at HA ⊢
    have HTQ : Hid (w20.heap.size ≤ tq) := HA.out.2.2
    have TB0 : Hid (Box V0x28 tq 53 #[.slice none 0 0, .slice none 0 0, .slice none 0 0]) := HA.out.2.1
    clear HB0
    have HB0 : Hid (Below w20.heap.size w20 V0x28) := HA.out.1
    clear HA
    refine rl 1 fun K hK => ?_
    go_simp
    refine (HTP.out _ (HQ.out _ HB0.out)).mono ?_
    rintro e w0x29 ⟨wbx, ybx, bbx, lox, rrx, rfl, ho, hb⟩
    have HP1 : Hid (PlOwn 0 w0x29 p wbx ybx bbx lox rrx) := ho.mono (Nat.zero_le _) (Below.refl _ _) nr
    have HB1 : Hid (Below w20.heap.size w20 w0x29) := HB0.out.trans (hb.mono HB0.out.size)
    have TB1 : Hid (Box w0x29 tq 53 #[.slice none 0 0, .slice none 0 0, .slice none 0 0]) := TB0.out.mono hb nr
    clear hb
    go_wp2_with fail
    refine hK.out _ _ ?_ (fun hHeldX => ?_)
    ·
     exact ⟨(HC.out _ (HQ.out _ HB1.out)).2.1.cell 0, (HC.out _ (HQ.out _ HB1.out)).2.1.cell 1, (HC.out _ (HQ.out _ HB1.out)).2.1.cell 2, (HC.out _ (HQ.out _ HB1.out)).2.1.cell 3, (HC.out _ (HQ.out _ HB1.out)).2.1.cell 4, (HC.out _ (HQ.out _ HB1.out)).2.2.cell 0, (HC.out _ (HQ.out _ HB1.out)).2.2.cell 1, (HC.out _ (HQ.out _ HB1.out)).2.2.cell 2, (HC.out _ (HQ.out _ HB1.out)).2.2.cell 3⟩
    clear hK K
    refine rl 3 fun K hK => ?_
    go_simp
    refine (HTF.out _ (HQ.out _ HB1.out)).mono ?_
    rintro e w1x30 ⟨obx, pbx, hbx, rx, rfl, hf, hb⟩
    have HP2 : Hid (PlOwn 0 w1x30 p wbx ybx bbx lox rrx) := HP1.out.mono nr hb nr
    have HF2 : Hid (FmOwn 0 w1x30 f (.slice (some ⟨obx, 0, none⟩) f.no f.no) (.slice (some ⟨pbx, 0, none⟩) f.np f.np) (.slice (some ⟨hbx, 0, none⟩) f.nh f.nh) rx) := hf.mono (Nat.zero_le _) (Below.refl _ _) nr
    have HB2 : Hid (Below w20.heap.size w20 w1x30) := HB1.out.trans (hb.mono HB1.out.size)
    have TB2 : Hid (Box w1x30 tq 53 #[.slice none 0 0, .slice none 0 0, .slice none 0 0]) := TB1.out.mono hb nr
    clear hb
    go_wp2_with fail
    refine hK.out _ _ ?_ (fun hHeldX => ?_)
    ·
     exact ⟨(HC.out _ (HQ.out _ HB2.out)).2.1.cell 0, (HC.out _ (HQ.out _ HB2.out)).2.1.cell 1, (HC.out _ (HQ.out _ HB2.out)).2.1.cell 2, (HC.out _ (HQ.out _ HB2.out)).2.1.cell 3, (HC.out _ (HQ.out _ HB2.out)).2.1.cell 4, (HC.out _ (HQ.out _ HB2.out)).2.2.cell 0, (HC.out _ (HQ.out _ HB2.out)).2.2.cell 1, (HC.out _ (HQ.out _ HB2.out)).2.2.cell 2, (HC.out _ (HQ.out _ HB2.out)).2.2.cell 3⟩
    clear hK K
    refine rl 5 fun K hK => ?_
    go_simp
    refine (blocked25 p f wbx ybx bbx lox rrx obx pbx hbx rx et t4 t5 ev v4 v5 kk w1x30 HS.out HFS.out HP2.out HF2.out (HEL.out _ (HQ.out _ HB2.out)).1 (HEL.out _ (HQ.out _ HB2.out)).2.1 (HEL.out _ (HQ.out _ HB2.out)).2.2.1 (HEL.out _ (HQ.out _ HB2.out)).2.2.2).mono ?_
    rintro e w2x31 ⟨j1, jc1, j2, jc2, j3, jc3, he, h1, h2, h3, _, _, hb⟩
    rw [HN1.out, HN2.out, HN3.out] at he
    rw [HN1.out, HD1.out] at h1
    rw [HN2.out, HD2.out] at h2
    rw [HN3.out, HD3.out] at h3
    subst he
    have HO3 : Hid (St3 w20.heap.size w2x31 n1 n2 n3 D1 D2 D3 j1 jc1 j2 jc2 j3 jc3) := ⟨h1.keep HB2.out.size fun _ _ => rfl, h2.keep HB2.out.size fun _ _ => rfl, h3.keep HB2.out.size fun _ _ => rfl⟩
    have HB3 : Hid (Below w20.heap.size w20 w2x31) := HB2.out.trans (hb.mono HB2.out.size)
    have TB3 : Hid (Box w2x31 tq 53 #[.slice none 0 0, .slice none 0 0, .slice none 0 0]) := TB2.out.mono hb nr
    clear hb
    go_wp2_with fail
    refine hK.out _ _ ?_ (fun hHeldX => ?_)
    ·
     exact ⟨(HC.out _ (HQ.out _ HB3.out)).2.1.cell 0, (HC.out _ (HQ.out _ HB3.out)).2.1.cell 1, (HC.out _ (HQ.out _ HB3.out)).2.1.cell 2, (HC.out _ (HQ.out _ HB3.out)).2.1.cell 3, (HC.out _ (HQ.out _ HB3.out)).2.1.cell 4, (HC.out _ (HQ.out _ HB3.out)).2.2.cell 0, (HC.out _ (HQ.out _ HB3.out)).2.2.cell 1, (HC.out _ (HQ.out _ HB3.out)).2.2.cell 2, (HC.out _ (HQ.out _ HB3.out)).2.2.cell 3⟩
    clear hK K
    have z0 := TB3.out.cel 0
    have z1 := TB3.out.cel 1
    have z2 := TB3.out.cel 2
    have f0 := TB3.out.free 0
    have f1 := TB3.out.free 1
    have f2 := TB3.out.free 2
    have HF : Hid (Below w20.heap.size w20 (((w2x31.setCell ⟨tq, 0, none⟩ (.slice j1 n1 jc1)).setCell ⟨tq, 1, none⟩ (.slice j2 n2 jc2)).setCell ⟨tq, 2, none⟩ (.slice j3 n3 jc3)) ∧ w20.heap.size ≤ tq ∧ Box (((w2x31.setCell ⟨tq, 0, none⟩ (.slice j1 n1 jc1)).setCell ⟨tq, 1, none⟩ (.slice j2 n2 jc2)).setCell ⟨tq, 2, none⟩ (.slice j3 n3 jc3)) tq 53 #[.slice j1 n1 jc1, .slice j2 n2 jc2, .slice j3 n3 jc3] ∧ St3 w20.heap.size (((w2x31.setCell ⟨tq, 0, none⟩ (.slice j1 n1 jc1)).setCell ⟨tq, 1, none⟩ (.slice j2 n2 jc2)).setCell ⟨tq, 2, none⟩ (.slice j3 n3 jc3)) n1 n2 n3 D1 D2 D3 j1 jc1 j2 jc2 j3 jc3) := fin4 HB3.out HTQ.out TB3.out HO3.out
    refine rl 7 fun K hK => ?_
    go_simp
    refine hK.out _ _ ?_ (fun hHeldX => ?_)
    ·
     exact ⟨(HC.out _ (HQ.out _ HF.out.1)).2.1.cell 0, (HC.out _ (HQ.out _ HF.out.1)).2.1.cell 1, (HC.out _ (HQ.out _ HF.out.1)).2.1.cell 2, (HC.out _ (HQ.out _ HF.out.1)).2.1.cell 3, (HC.out _ (HQ.out _ HF.out.1)).2.1.cell 4, (HC.out _ (HQ.out _ HF.out.1)).2.2.cell 0, (HC.out _ (HQ.out _ HF.out.1)).2.2.cell 1, (HC.out _ (HQ.out _ HF.out.1)).2.2.cell 2, (HC.out _ (HQ.out _ HF.out.1)).2.2.cell 3⟩
    clear hK K
    refine wpAnyH_done (by kernel_rfl) ?_ _
    clear z0 z1 z2 f0 f1 f2
    go_wp2_with fail
    go_meet
    case rel => exact ⟨tq, j1, jc1, j2, jc2, j3, jc3, rfl, HF⟩
  case rest =>
   obtain ⟨hq, j1, jc1, j2, jc2, j3, jc3, rfl, F9⟩ := hcut
   have Z23 : Hid (Below w2.heap.size w2 wc ∧ (St3 0 wc n1 n2 n3 D1 D2 D3 s1 sc1 s2 sc2 s3 sc3 ∧ Box wc sq 53 #[.slice s1 n1 sc1, .slice s2 n2 sc2, .slice s3 n3 sc3]) ∧ St3 V9.heap.size wc n1 n2 n3 (mkI 1) (mkI (1 + n1)) (mkI (1 + n1 + n2)) g1 gc1 g2 gc2 g3 gc3 ∧ Box wc gq 53 #[.slice g1 n1 gc1, .slice g2 n2 gc2, .slice g3 n3 gc3]) := ⟨HQ.out _ F9.out.1, ⟨Z20.out.2.1.1.mono nr F9.out.1 nr, Z20.out.2.1.2.mono F9.out.1 nr⟩, Z20.out.2.2.1.mono nr F9.out.1 nr, Z20.out.2.2.2.mono F9.out.1 nr⟩
   clear Z20
   have x0 := Z23.out.2.1.2.cel 0
   have x1 := Z23.out.2.1.2.cel 1
   have x2 := Z23.out.2.1.2.cel 2
   have y0 := F9.out.2.2.1.cel 0
   have y1 := F9.out.2.2.1.cel 1
   have y2 := F9.out.2.2.1.cel 2
   go_wp2_with fail
   clear x0 x1 x2 y0 y1 y2
   refine (eqStays26 j1 j2 j3 s1 s2 s3 jc1 jc2 jc3 sc1 sc2 sc3 n1 n2 n3 D1 D2 D3 wc hm1 hm2 hm3 (F9.out.2.2.2.1.vs.le (Nat.zero_le _)) (F9.out.2.2.2.2.1.vs.le (Nat.zero_le _)) (F9.out.2.2.2.2.2.vs.le (Nat.zero_le _)) (Z23.out.2.1.1.1.vs.le (Nat.zero_le _)) (Z23.out.2.1.1.2.1.vs.le (Nat.zero_le _)) (Z23.out.2.1.1.2.2.vs.le (Nat.zero_le _))).mono ?_
   rintro e w24 ⟨rfl, hb24⟩
   have Z24 : Hid (Below w2.heap.size w2 w24 ∧ St3 V9.heap.size w24 n1 n2 n3 (mkI 1) (mkI (1 + n1)) (mkI (1 + n1 + n2)) g1 gc1 g2 gc2 g3 gc3 ∧ Box w24 gq 53 #[.slice g1 n1 gc1, .slice g2 n2 gc2, .slice g3 n3 gc3]) := ⟨Z23.out.1.trans (hb24.mono Z23.out.1.size), Z23.out.2.2.1.mono nr hb24 nr, Z23.out.2.2.2.mono hb24 nr⟩
   clear hb24 Z23 F9 HQ
   have y0 := Z24.out.2.2.cel 0
   have y1 := Z24.out.2.2.cel 1
   have y2 := Z24.out.2.2.cel 2
   go_wp2_with fail
   clear y0 y1 y2
   refine (heldStays28 g1 g2 g3 gc1 gc2 gc3 n1 n2 n3 w24 hm1 hm2 hm3 (Z24.out.2.1.1.vs.le (Nat.zero_le _)) (Z24.out.2.1.2.1.vs.le (Nat.zero_le _)) (Z24.out.2.1.2.2.vs.le (Nat.zero_le _))).mono ?_
   rintro e w25 ⟨rfl, hb25⟩
   rw [hmE.out]
   have HE : Hid (Below w.heap.size w w25) := (HC.out w25 (Z24.out.1.trans (hb25.mono Z24.out.1.size))).1
   clear hb25
   go_wp2_with fail
   go_ret
   exact ⟨rfl, HE.out⟩
end Go.Proofs.YtlgapgajgpilgaaGreatDoor
