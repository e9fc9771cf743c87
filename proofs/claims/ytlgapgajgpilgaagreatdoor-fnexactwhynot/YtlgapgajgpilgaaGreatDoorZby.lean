import Derived.Test.YtlgapgajgpilgaaGreatDoorZbx
import Derived.Test.YtlgapgajgpilgaaGreatDoorZbw
import Derived.Test.YtlgapgajgpilgaaGreatDoorZbn
namespace Go.Proofs.YtlgapgajgpilgaaGreatDoor
open Go.RowKit Go.Lib
theorem frame_sw {p : Pl} {f : Fm} (h : frameB p f = true) : ∀ k, k < p.nw → ∃ o : Nat, p.W k = (o : Int) ∧ o < f.no := fun k hk => by
 have hz : sizesB p f = true := by
  simp only [frameB, Bool.and_eq_true] at h
  exact h.1
 obtain ⟨_, h0, _, h1, _⟩ := sizes_ok hz
 have h2 := plan_sw h0 k hk
 simp only [inB, Bool.and_eq_true, decide_eq_true_eq] at h2
 exact ⟨(p.W k).toNat, by omega, by omega⟩
def blG (p : Pl) (f : Fm) (x : Int) : Bool := frameB p f && inB x 0 ((p.ny : Int) - 1)
def bl1 (p : Pl) (f : Fm) (x : Int) : Nat := if blG p f x then selN (fun k => agB p f x.toNat k) p.ny else 0
def bl2 (p : Pl) (f : Fm) (x : Int) : Nat := if blG p f x then selN (scQ p f.O x.toNat) f.no else 0
def bl3 (p : Pl) (f : Fm) (x : Int) : Nat := if blG p f x then selN (swB p f x.toNat) p.nw else 0
def BkR (w : World) (p : Pl) (f : Fm) (x : Int) (e : Ending) (w' : World) : Prop :=
 ∃ a1 c1 a2 c2 a3 c3, e = .returned (.agg #[.slice a1 (bl1 p f x) c1, .slice a2 (bl2 p f x) c2, .slice a3 (bl3 p f x) c3]) ∧
  VOwn w.heap.size 3 1 w' (.slice a1 (bl1 p f x) c1) (bl1 p f x) (oneF (selD (fun k => agB p f x.toNat k) p.ny)) ∧
  VOwn w.heap.size 3 1 w' (.slice a2 (bl2 p f x) c2) (bl2 p f x) (oneF (selD (scQ p f.O x.toNat) f.no)) ∧
  VOwn w.heap.size 3 1 w' (.slice a3 (bl3 p f x) c3) (bl3 p f x) (oneF (selD (swB p f x.toNat) p.nw)) ∧ Below w.heap.size w w'
theorem BkR.no {w w' : World} {p : Pl} {f : Fm} {x : Int} (h : blG p f x = false) (hb : Below w.heap.size w w') : BkR w p f x (.returned (.agg #[.slice none 0 0, .slice none 0 0, .slice none 0 0])) w' := by
 have e1 : bl1 p f x = 0 := by rw [bl1, h]; rfl
 have e2 : bl2 p f x = 0 := by rw [bl2, h]; rfl
 have e3 : bl3 p f x = 0 := by rw [bl3, h]; rfl
 exact ⟨none, 0, none, 0, none, 0, by rw [e1, e2, e3], by rw [e1]; exact VOwn.nil _ _ _ _ _, by rw [e2]; exact VOwn.nil _ _ _ _ _, by rw [e3]; exact VOwn.nil _ _ _ _ _, hb⟩
set_option maxRecDepth 100000 in
set_option maxHeartbeats 8000000 in
theorem blocked24 (p : Pl) (f : Fm) (wa ya ba : Option Addr) (wc yc bc : Nat) (ob oo pb po : Nat) (ha : Option Addr) (oc pc hc : Nat) (x : Int) (w : World) (hs : p.small) (hfs : f.small) (h : PlIn 0 w p wa ya ba) (hf : FmIn 0 w f (some ⟨ob, oo, none⟩) (some ⟨pb, po, none⟩) ha) :
  Calls Tryz.prog 24 #[.agg #[.int .i64 p.sec, .slice wa p.nw wc, .slice ya p.ny yc, .slice ba p.nb bc, .int .i64 p.hold], .agg #[.bool f.ok, .slice (some ⟨ob, oo, none⟩) f.no oc, .slice (some ⟨pb, po, none⟩) f.np pc, .slice ha f.nh hc], .int .i64 x] w fun e w' => BkR w p f x e w' := by
 have H : Hid (PlIn 0 w p wa ya ba ∧ FmIn 0 w f (some ⟨ob, oo, none⟩) (some ⟨pb, po, none⟩) ha ∧ p.small ∧ f.small) := ⟨h, hf, hs, hfs⟩
 have S0 : Hid (Below w.heap.size w (((w.alloc (.cells #[.int .i64 p.sec, .slice wa p.nw wc, .slice ya p.ny yc, .slice ba p.nb bc, .int .i64 p.hold] 37)).alloc (.cells #[.bool f.ok, .slice (some ⟨ob, oo, none⟩) f.no oc, .slice (some ⟨pb, po, none⟩) f.np pc, .slice ha f.nh hc] 42)).alloc (.cells #[.slice none 0 0, .slice none 0 0, .slice none 0 0] 53)) ∧ Box (((w.alloc (.cells #[.int .i64 p.sec, .slice wa p.nw wc, .slice ya p.ny yc, .slice ba p.nb bc, .int .i64 p.hold] 37)).alloc (.cells #[.bool f.ok, .slice (some ⟨ob, oo, none⟩) f.no oc, .slice (some ⟨pb, po, none⟩) f.np pc, .slice ha f.nh hc] 42)).alloc (.cells #[.slice none 0 0, .slice none 0 0, .slice none 0 0] 53)) w.heap.size 37 #[.int .i64 p.sec, .slice wa p.nw wc, .slice ya p.ny yc, .slice ba p.nb bc, .int .i64 p.hold] ∧ Box (((w.alloc (.cells #[.int .i64 p.sec, .slice wa p.nw wc, .slice ya p.ny yc, .slice ba p.nb bc, .int .i64 p.hold] 37)).alloc (.cells #[.bool f.ok, .slice (some ⟨ob, oo, none⟩) f.no oc, .slice (some ⟨pb, po, none⟩) f.np pc, .slice ha f.nh hc] 42)).alloc (.cells #[.slice none 0 0, .slice none 0 0, .slice none 0 0] 53)) (w.heap.size + 1) 42 #[.bool f.ok, .slice (some ⟨ob, oo, none⟩) f.no oc, .slice (some ⟨pb, po, none⟩) f.np pc, .slice ha f.nh hc] ∧ Box (((w.alloc (.cells #[.int .i64 p.sec, .slice wa p.nw wc, .slice ya p.ny yc, .slice ba p.nb bc, .int .i64 p.hold] 37)).alloc (.cells #[.bool f.ok, .slice (some ⟨ob, oo, none⟩) f.no oc, .slice (some ⟨pb, po, none⟩) f.np pc, .slice ha f.nh hc] 42)).alloc (.cells #[.slice none 0 0, .slice none 0 0, .slice none 0 0] 53)) (w.heap.size + 1 + 1) 53 #[.slice none 0 0, .slice none 0 0, .slice none 0 0] ∧ w.heap.size ≤ (w.heap.size + 1 + 1)) := ⟨bel3 _ _ _ _, ((Box.new _ _ _).alloc _).alloc _, by have := (Box.new (w.alloc (.cells #[.int .i64 p.sec, .slice wa p.nw wc, .slice ya p.ny yc, .slice ba p.nb bc, .int .i64 p.hold] 37)) 42 #[.bool f.ok, .slice (some ⟨ob, oo, none⟩) f.no oc, .slice (some ⟨pb, po, none⟩) f.np pc, .slice ha f.nh hc]).alloc (.cells #[.slice none 0 0, .slice none 0 0, .slice none 0 0] 53); simpa using this, by have := Box.new ((w.alloc (.cells #[.int .i64 p.sec, .slice wa p.nw wc, .slice ya p.ny yc, .slice ba p.nb bc, .int .i64 p.hold] 37)).alloc (.cells #[.bool f.ok, .slice (some ⟨ob, oo, none⟩) f.no oc, .slice (some ⟨pb, po, none⟩) f.np pc, .slice ha f.nh hc] 42)) 53 #[.slice none 0 0, .slice none 0 0, .slice none 0 0]; simpa using this, by omega⟩
 have hny : p.ny ≤ 1048576 := hs.2.1
 clear h hf hs hfs
 go_enter Tryz.func24, Tryz.ntmps24
 go_wp2_with fail
 generalize (((w.alloc (.cells #[.int .i64 p.sec, .slice wa p.nw wc, .slice ya p.ny yc, .slice ba p.nb bc, .int .i64 p.hold] 37)).alloc (.cells #[.bool f.ok, .slice (some ⟨ob, oo, none⟩) f.no oc, .slice (some ⟨pb, po, none⟩) f.np pc, .slice ha f.nh hc] 42)).alloc (.cells #[.slice none 0 0, .slice none 0 0, .slice none 0 0] 53)) = V0 at S0 ⊢
 generalize w.heap.size + 1 + 1 = q6 at S0 ⊢
 generalize w.heap.size + 1 = q4 at S0 ⊢
 have HQ6 : Hid (w.heap.size ≤ q6) := S0.out.2.2.2.2
 refine (frame8 p f wa ya ba wc yc bc ob oo pb po ha oc pc hc V0 H.out.2.2.1 H.out.2.2.2 (H.out.1.mono nr S0.out.1 nr) (H.out.2.1.mono nr S0.out.1 nr)).mono ?_
 rintro e w1 ⟨he, hb1⟩
 have S1 : Hid (Below w.heap.size w w1 ∧ Box w1 w.heap.size 37 #[.int .i64 p.sec, .slice wa p.nw wc, .slice ya p.ny yc, .slice ba p.nb bc, .int .i64 p.hold] ∧ Box w1 q4 42 #[.bool f.ok, .slice (some ⟨ob, oo, none⟩) f.no oc, .slice (some ⟨pb, po, none⟩) f.np pc, .slice ha f.nh hc] ∧ Box w1 q6 53 #[.slice none 0 0, .slice none 0 0, .slice none 0 0]) := ⟨S0.out.1.trans (hb1.mono S0.out.1.size), S0.out.2.1.mono hb1 nr, S0.out.2.2.1.mono hb1 nr, S0.out.2.2.2.1.mono hb1 nr⟩
 clear hb1 S0
 obtain ⟨g, HG⟩ : ∃ g, Hid (frameB p f = g) := ⟨_, rfl⟩
 rw [HG.out] at he
 subst he
 cases g with
 | false =>
  have e0 := S1.out.2.2.2.cel 0
  have e1 := S1.out.2.2.2.cel 1
  have e2 := S1.out.2.2.2.cel 2
  have g0 := S1.out.2.2.2.free 0
  have g1 := S1.out.2.2.2.free 1
  have g2 := S1.out.2.2.2.free 2
  have HF : Hid (Below w.heap.size w (((w1.setCell ⟨q6, 0, none⟩ (.slice none 0 0)).setCell ⟨q6, 1, none⟩ (.slice none 0 0)).setCell ⟨q6, 2, none⟩ (.slice none 0 0)) ∧ Box (((w1.setCell ⟨q6, 0, none⟩ (.slice none 0 0)).setCell ⟨q6, 1, none⟩ (.slice none 0 0)).setCell ⟨q6, 2, none⟩ (.slice none 0 0)) q6 53 #[.slice none 0 0, .slice none 0 0, .slice none 0 0]) := ⟨((S1.out.1.setCell HQ6.out _).setCell HQ6.out _).setCell HQ6.out _, ((S1.out.2.2.2.set 0 (.slice none 0 0)).set 1 (.slice none 0 0)).set 2 (.slice none 0 0)⟩
  go_wp2_with fail
  generalize (((w1.setCell ⟨q6, 0, none⟩ (.slice none 0 0)).setCell ⟨q6, 1, none⟩ (.slice none 0 0)).setCell ⟨q6, 2, none⟩ (.slice none 0 0)) = W9 at HF ⊢
  clear e0 e1 e2 g0 g1 g2
  have d0 := HF.out.2.cel 0
  have d1 := HF.out.2.cel 1
  have d2 := HF.out.2.cel 2
  exact bodyPost_ret (v := .agg #[.slice none 0 0, .slice none 0 0, .slice none 0 0]) (by simp [results, Tryz.results24, go_sem, d0, d1, d2]) rfl (BkR.no (by rw [blG, HG.out]; rfl) HF.out.1)
 | true =>
  have a2 := S1.out.2.1.cel 2
  go_wp2_with fail
  clear a2
  refine (in24 x 0 ((p.ny : Int) - 1) _).mono ?_
  rintro e w2 ⟨he, hw⟩
  have hw := hw.symm
  subst hw
  obtain ⟨q, HQ⟩ : ∃ q, Hid (inB x 0 ((p.ny : Int) - 1) = q) := ⟨_, rfl⟩
  rw [HQ.out] at he
  subst he
  cases q with
  | false =>
   have e0 := S1.out.2.2.2.cel 0
   have e1 := S1.out.2.2.2.cel 1
   have e2 := S1.out.2.2.2.cel 2
   have g0 := S1.out.2.2.2.free 0
   have g1 := S1.out.2.2.2.free 1
   have g2 := S1.out.2.2.2.free 2
   have HF : Hid (Below w.heap.size w (((w1.setCell ⟨q6, 0, none⟩ (.slice none 0 0)).setCell ⟨q6, 1, none⟩ (.slice none 0 0)).setCell ⟨q6, 2, none⟩ (.slice none 0 0)) ∧ Box (((w1.setCell ⟨q6, 0, none⟩ (.slice none 0 0)).setCell ⟨q6, 1, none⟩ (.slice none 0 0)).setCell ⟨q6, 2, none⟩ (.slice none 0 0)) q6 53 #[.slice none 0 0, .slice none 0 0, .slice none 0 0]) := ⟨((S1.out.1.setCell HQ6.out _).setCell HQ6.out _).setCell HQ6.out _, ((S1.out.2.2.2.set 0 (.slice none 0 0)).set 1 (.slice none 0 0)).set 2 (.slice none 0 0)⟩
   go_wp2_with fail
   generalize (((w1.setCell ⟨q6, 0, none⟩ (.slice none 0 0)).setCell ⟨q6, 1, none⟩ (.slice none 0 0)).setCell ⟨q6, 2, none⟩ (.slice none 0 0)) = W9 at HF ⊢
   clear e0 e1 e2 g0 g1 g2
   have d0 := HF.out.2.cel 0
   have d1 := HF.out.2.cel 1
   have d2 := HF.out.2.cel 2
   exact bodyPost_ret (v := .agg #[.slice none 0 0, .slice none 0 0, .slice none 0 0]) (by simp [results, Tryz.results24, go_sem, d0, d1, d2]) rfl (BkR.no (by rw [blG, HG.out, HQ.out]; rfl) HF.out.1)
  | true =>
   obtain ⟨i, rfl, hlt⟩ := inB_nat HQ.out
   have HGG : Hid (blG p f (i : Int) = true) := by rw [Hid, blG, HG.out, HQ.out]; rfl
   have a0 := S1.out.2.1.cel 0
   have a1 := S1.out.2.1.cel 1
   have a2 := S1.out.2.1.cel 2
   have a3 := S1.out.2.1.cel 3
   have a4 := S1.out.2.1.cel 4
   have b0 := S1.out.2.2.1.cel 0
   have b1 := S1.out.2.2.1.cel 1
   have b2 := S1.out.2.2.1.cel 2
   have b3 := S1.out.2.2.1.cel 3
   go_wp2_with fail
   clear a0 a1 a2 a3 a4 b0 b1 b2 b3
   have HSW : Hid (∀ k, k < p.nw → ∃ o : Nat, p.W k = (o : Int) ∧ o < f.no) := frame_sw HG.out
   refine (stays62 p f wa ya ba wc yc bc ob oo pb po ha oc pc hc i w1 hlt H.out.2.2.1 H.out.2.2.2 (frame_in HG.out).1 (frame_in HG.out).2.1 (frame_in HG.out).2.2.1 (frame_in HG.out).2.2.2.1 ((frame_in HG.out).2.2.2.2 i hlt) HSW.out (H.out.1.mono nr S1.out.1 nr) (H.out.2.1.mono nr S1.out.1 nr)).mono ?_
   rintro e w3 ⟨a1, c1, a2, c2, a3, c3, rfl, o1, o2, o3, hb3⟩
   obtain ⟨n1, HN1⟩ : ∃ n, Hid (selN (fun k => agB p f i k) p.ny = n) := ⟨_, rfl⟩
   obtain ⟨n2, HN2⟩ : ∃ n, Hid (selN (scQ p f.O i) f.no = n) := ⟨_, rfl⟩
   obtain ⟨n3, HN3⟩ : ∃ n, Hid (selN (swB p f i) p.nw = n) := ⟨_, rfl⟩
   rw [HN1.out] at o1
   rw [HN2.out] at o2
   rw [HN3.out] at o3
   rw [HN1.out, HN2.out, HN3.out]
   have HB : Hid (bl1 p f (i : Int) = n1 ∧ bl2 p f (i : Int) = n2 ∧ bl3 p f (i : Int) = n3) := ⟨by rw [bl1, HGG.out, if_pos rfl, ← HN1.out]; rfl, by rw [bl2, HGG.out, if_pos rfl, ← HN2.out]; rfl, by rw [bl3, HGG.out, if_pos rfl, ← HN3.out]; rfl⟩
   have HX : Hid ((Below w.heap.size w (w3.alloc (.cells #[.slice a1 n1 c1, .slice a2 n2 c2, .slice a3 n3 c3] 53)) ∧ Box (w3.alloc (.cells #[.slice a1 n1 c1, .slice a2 n2 c2, .slice a3 n3 c3] 53)) w.heap.size 37 #[.int .i64 p.sec, .slice wa p.nw wc, .slice ya p.ny yc, .slice ba p.nb bc, .int .i64 p.hold] ∧ Box (w3.alloc (.cells #[.slice a1 n1 c1, .slice a2 n2 c2, .slice a3 n3 c3] 53)) q4 42 #[.bool f.ok, .slice (some ⟨ob, oo, none⟩) f.no oc, .slice (some ⟨pb, po, none⟩) f.np pc, .slice ha f.nh hc] ∧ Box (w3.alloc (.cells #[.slice a1 n1 c1, .slice a2 n2 c2, .slice a3 n3 c3] 53)) q6 53 #[.slice none 0 0, .slice none 0 0, .slice none 0 0]) ∧ VOwn w1.heap.size 3 1 (w3.alloc (.cells #[.slice a1 n1 c1, .slice a2 n2 c2, .slice a3 n3 c3] 53)) (.slice a1 n1 c1) n1 (oneF (selD (fun k => agB p f i k) p.ny)) ∧ VOwn w1.heap.size 3 1 (w3.alloc (.cells #[.slice a1 n1 c1, .slice a2 n2 c2, .slice a3 n3 c3] 53)) (.slice a2 n2 c2) n2 (oneF (selD (scQ p f.O i) f.no)) ∧ VOwn w1.heap.size 3 1 (w3.alloc (.cells #[.slice a1 n1 c1, .slice a2 n2 c2, .slice a3 n3 c3] 53)) (.slice a3 n3 c3) n3 (oneF (selD (swB p f i) p.nw)) ∧ w.heap.size ≤ w1.heap.size) := by
    have q := S1.out.1.trans (hb3.mono S1.out.1.size)
    exact ⟨⟨q.alloc q.size _, (S1.out.2.1.mono hb3 nr).alloc _, (S1.out.2.2.1.mono hb3 nr).alloc _, (S1.out.2.2.2.mono hb3 nr).alloc _⟩, o1.alloc _, o2.alloc _, o3.alloc _, S1.out.1.size⟩
   have HSQ : Hid (Box (w3.alloc (.cells #[.slice a1 n1 c1, .slice a2 n2 c2, .slice a3 n3 c3] 53)) w3.heap.size 53 #[.slice a1 n1 c1, .slice a2 n2 c2, .slice a3 n3 c3]) := Box.new _ _ _
   clear o1 o2 o3 hb3 S1
   go_upto_region 4 with fail
   generalize w3.alloc (.cells #[.slice a1 n1 c1, .slice a2 n2 c2, .slice a3 n3 c3] 53) = V9 at HX HSQ ⊢
   generalize w3.heap.size = sq at HSQ ⊢
   have s0 := HSQ.out.cel 0
   have s1 := HSQ.out.cel 1
   have s2 := HSQ.out.cel 2
   have e0 := HX.out.1.2.2.2.cel 0
   have e1 := HX.out.1.2.2.2.cel 1
   have e2 := HX.out.1.2.2.2.cel 2
   have g0 := HX.out.1.2.2.2.free 0
   have g1 := HX.out.1.2.2.2.free 1
   have g2 := HX.out.1.2.2.2.free 2
   have HF : Hid (Below w.heap.size w (((V9.setCell ⟨q6, 0, none⟩ (.slice a1 n1 c1)).setCell ⟨q6, 1, none⟩ (.slice a2 n2 c2)).setCell ⟨q6, 2, none⟩ (.slice a3 n3 c3)) ∧ Box (((V9.setCell ⟨q6, 0, none⟩ (.slice a1 n1 c1)).setCell ⟨q6, 1, none⟩ (.slice a2 n2 c2)).setCell ⟨q6, 2, none⟩ (.slice a3 n3 c3)) q6 53 #[.slice a1 n1 c1, .slice a2 n2 c2, .slice a3 n3 c3] ∧ VOwn w.heap.size 3 1 (((V9.setCell ⟨q6, 0, none⟩ (.slice a1 n1 c1)).setCell ⟨q6, 1, none⟩ (.slice a2 n2 c2)).setCell ⟨q6, 2, none⟩ (.slice a3 n3 c3)) (.slice a1 n1 c1) n1 (oneF (selD (fun k => agB p f i k) p.ny)) ∧ VOwn w.heap.size 3 1 (((V9.setCell ⟨q6, 0, none⟩ (.slice a1 n1 c1)).setCell ⟨q6, 1, none⟩ (.slice a2 n2 c2)).setCell ⟨q6, 2, none⟩ (.slice a3 n3 c3)) (.slice a2 n2 c2) n2 (oneF (selD (scQ p f.O i) f.no)) ∧ VOwn w.heap.size 3 1 (((V9.setCell ⟨q6, 0, none⟩ (.slice a1 n1 c1)).setCell ⟨q6, 1, none⟩ (.slice a2 n2 c2)).setCell ⟨q6, 2, none⟩ (.slice a3 n3 c3)) (.slice a3 n3 c3) n3 (oneF (selD (swB p f i) p.nw))) := by
    have k0 := HX.out.1.2.2.2
    have k1 := k0.set 0 (.slice a1 n1 c1)
    have k2 := k1.set 1 (.slice a2 n2 c2)
    have k3 := k2.set 2 (.slice a3 n3 c3)
    have hz := HX.out.2.2.2.2
    exact ⟨((HX.out.1.1.setCell HQ6.out _).setCell HQ6.out _).setCell HQ6.out _, k3, (((HX.out.2.1.set k0 (by decide) _ _).set k1 (by decide) _ _).set k2 (by decide) _ _).keep hz fun _ _ => rfl, (((HX.out.2.2.1.set k0 (by decide) _ _).set k1 (by decide) _ _).set k2 (by decide) _ _).keep hz fun _ _ => rfl, (((HX.out.2.2.2.1.set k0 (by decide) _ _).set k1 (by decide) _ _).set k2 (by decide) _ _).keep hz fun _ _ => rfl⟩
   go_wp2_with fail
   generalize (((V9.setCell ⟨q6, 0, none⟩ (.slice a1 n1 c1)).setCell ⟨q6, 1, none⟩ (.slice a2 n2 c2)).setCell ⟨q6, 2, none⟩ (.slice a3 n3 c3)) = W9 at HF ⊢
   clear s0 s1 s2 e0 e1 e2 g0 g1 g2
   have d0 := HF.out.2.1.cel 0
   have d1 := HF.out.2.1.cel 1
   have d2 := HF.out.2.1.cel 2
   refine bodyPost_ret (v := .agg #[.slice a1 n1 c1, .slice a2 n2 c2, .slice a3 n3 c3]) (by simp [results, Tryz.results24, go_sem, d0, d1, d2]) rfl ⟨a1, c1, a2, c2, a3, c3, ?_, ?_, ?_, ?_, HF.out.1⟩
   ·
    rw [HB.out.1, HB.out.2.1, HB.out.2.2]
   ·
    rw [HB.out.1]
    exact HF.out.2.2.1
   ·
    rw [HB.out.2.1]
    exact HF.out.2.2.2.1
   ·
    rw [HB.out.2.2]
    exact HF.out.2.2.2.2
end Go.Proofs.YtlgapgajgpilgaaGreatDoor
