import Derived.Test.YtlgapgajgpilgaaGreatDoorZby
import Derived.Test.YtlgapgajgpilgaaGreatDoorZbv
import Derived.Test.YtlgapgajgpilgaaGreatDoorZbd
namespace Go.Proofs.YtlgapgajgpilgaaGreatDoor
open Go.RowKit Go.Lib
def BkI (w : World) (p : Pl) (f : Fm) (x : Int) (e : Ending) (w' : World) : Prop :=
 ∃ a1 c1 a2 c2 a3 c3, e = .returned (.agg #[.slice a1 (bl1 p f x) c1, .slice a2 (bl2 p f x) c2, .slice a3 (bl3 p f x) c3]) ∧
  VOwn w.heap.size 3 1 w' (.slice a1 (bl1 p f x) c1) (bl1 p f x) (oneF (selD (fun k => agB p f x.toNat k) p.ny)) ∧
  VOwn w.heap.size 3 1 w' (.slice a2 (bl2 p f x) c2) (bl2 p f x) (oneF (selD (scQ p f.O x.toNat) f.no)) ∧
  VOwn w.heap.size 3 1 w' (.slice a3 (bl3 p f x) c3) (bl3 p f x) (oneF (selD (swB p f x.toNat) p.nw)) ∧
  (∀ g, (Value.slice a1 (bl1 p f x) c1).ownBlock = some g → (Value.slice a2 (bl2 p f x) c2).ownBlock ≠ some g ∧ (Value.slice a3 (bl3 p f x) c3).ownBlock ≠ some g) ∧
  (∀ g, (Value.slice a2 (bl2 p f x) c2).ownBlock = some g → (Value.slice a3 (bl3 p f x) c3).ownBlock ≠ some g) ∧ Below w.heap.size w w'
theorem BkI.no {w w' : World} {p : Pl} {f : Fm} {x : Int} (h : blG p f x = false) (hb : Below w.heap.size w w') : BkI w p f x (.returned (.agg #[.slice none 0 0, .slice none 0 0, .slice none 0 0])) w' := by
 have e1 : bl1 p f x = 0 := by rw [bl1, h]; rfl
 have e2 : bl2 p f x = 0 := by rw [bl2, h]; rfl
 have e3 : bl3 p f x = 0 := by rw [bl3, h]; rfl
 exact ⟨none, 0, none, 0, none, 0, by rw [e1, e2, e3], by rw [e1]; exact VOwn.nil _ _ _ _ _, by rw [e2]; exact VOwn.nil _ _ _ _ _, by rw [e3]; exact VOwn.nil _ _ _ _ _, (fun _ h => by cases h), (fun _ h => by cases h), hb⟩
set_option maxHeartbeats 400000 in
theorem place63 (a : Option Addr) (n cap : Nat) (x : Int) (w : World) (hn : n ≤ 1048576) :
  Calls Tryz.prog 63 #[.slice a n cap, .int .i64 x] w fun e w' => e = .returned (.bool (inB x 0 ((n : Int) - 1))) ∧ w' = w := by
 go_enter Tryz.func63, Tryz.ntmps63
 go_wp2_with fail
 refine (within30 x 0 ((n : Int) - 1) _).mono ?_
 rintro e w1 ⟨rfl, hw⟩
 have hw := hw.symm
 subst hw
 go_wp2_with fail
 go_ret
 exact ⟨rfl, rfl⟩
set_option maxRecDepth 100000 in
set_option maxHeartbeats 8000000 in
theorem blocked25 (p : Pl) (f : Fm) (wb yb bb : Nat) (lo rr : Nat → Nat) (ob pb hb : Nat) (r : Nat → Nat) (et t4 t5 : TypeId) (ev v4 v5 : Value) (x : Int) (w : World) (hs : p.small) (hfs : f.small) (hP : PlOwn 0 w p wb yb bb lo rr) (hF : FmOwn 0 w f (.slice (some ⟨ob, 0, none⟩) f.no f.no) (.slice (some ⟨pb, 0, none⟩) f.np f.np) (.slice (some ⟨hb, 0, none⟩) f.nh f.nh) r) (he : w.cell? ⟨0, 0, none⟩ = some (.iface et ev)) (h4 : w.cell? ⟨4, 0, none⟩ = some (.iface t4 v4)) (h5 : w.cell? ⟨5, 0, none⟩ = some (.iface t5 v5)) (h0 : 5 < w.heap.size) :
  Calls Tryz.prog 25 #[.agg #[.int .i64 p.sec, .slice (some ⟨wb, 0, none⟩) p.nw p.nw, .slice (some ⟨yb, 0, none⟩) p.ny p.ny, .slice (some ⟨bb, 0, none⟩) p.nb p.nb, .int .i64 p.hold], .agg #[.bool f.ok, .slice (some ⟨ob, 0, none⟩) f.no f.no, .slice (some ⟨pb, 0, none⟩) f.np f.np, .slice (some ⟨hb, 0, none⟩) f.nh f.nh], .int .i64 x] w fun e w' => BkI w p f x e w' := by
 have H : Hid (PlOwn 0 w p wb yb bb lo rr ∧ FmOwn 0 w f (.slice (some ⟨ob, 0, none⟩) f.no f.no) (.slice (some ⟨pb, 0, none⟩) f.np f.np) (.slice (some ⟨hb, 0, none⟩) f.nh f.nh) r ∧ p.small ∧ f.small) := ⟨hP, hF, hs, hfs⟩
 have HE : Hid (w.cell? ⟨0, 0, none⟩ = some (.iface et ev) ∧ w.cell? ⟨4, 0, none⟩ = some (.iface t4 v4) ∧ w.cell? ⟨5, 0, none⟩ = some (.iface t5 v5) ∧ 0 < w.heap.size ∧ 4 < w.heap.size ∧ 5 < w.heap.size) := ⟨he, h4, h5, by omega, by omega, h0⟩
 have S0 : Hid (Below w.heap.size w (((w.alloc (.cells #[.int .i64 p.sec, .slice (some ⟨wb, 0, none⟩) p.nw p.nw, .slice (some ⟨yb, 0, none⟩) p.ny p.ny, .slice (some ⟨bb, 0, none⟩) p.nb p.nb, .int .i64 p.hold] 37)).alloc (.cells #[.bool f.ok, .slice (some ⟨ob, 0, none⟩) f.no f.no, .slice (some ⟨pb, 0, none⟩) f.np f.np, .slice (some ⟨hb, 0, none⟩) f.nh f.nh] 42)).alloc (.cells #[.slice none 0 0, .slice none 0 0, .slice none 0 0] 53)) ∧ Box (((w.alloc (.cells #[.int .i64 p.sec, .slice (some ⟨wb, 0, none⟩) p.nw p.nw, .slice (some ⟨yb, 0, none⟩) p.ny p.ny, .slice (some ⟨bb, 0, none⟩) p.nb p.nb, .int .i64 p.hold] 37)).alloc (.cells #[.bool f.ok, .slice (some ⟨ob, 0, none⟩) f.no f.no, .slice (some ⟨pb, 0, none⟩) f.np f.np, .slice (some ⟨hb, 0, none⟩) f.nh f.nh] 42)).alloc (.cells #[.slice none 0 0, .slice none 0 0, .slice none 0 0] 53)) w.heap.size 37 #[.int .i64 p.sec, .slice (some ⟨wb, 0, none⟩) p.nw p.nw, .slice (some ⟨yb, 0, none⟩) p.ny p.ny, .slice (some ⟨bb, 0, none⟩) p.nb p.nb, .int .i64 p.hold] ∧ Box (((w.alloc (.cells #[.int .i64 p.sec, .slice (some ⟨wb, 0, none⟩) p.nw p.nw, .slice (some ⟨yb, 0, none⟩) p.ny p.ny, .slice (some ⟨bb, 0, none⟩) p.nb p.nb, .int .i64 p.hold] 37)).alloc (.cells #[.bool f.ok, .slice (some ⟨ob, 0, none⟩) f.no f.no, .slice (some ⟨pb, 0, none⟩) f.np f.np, .slice (some ⟨hb, 0, none⟩) f.nh f.nh] 42)).alloc (.cells #[.slice none 0 0, .slice none 0 0, .slice none 0 0] 53)) (w.heap.size + 1 + 1) 53 #[.slice none 0 0, .slice none 0 0, .slice none 0 0] ∧ w.heap.size ≤ (w.heap.size + 1 + 1)) := ⟨bel3 _ _ _ _, ((Box.new _ _ _).alloc _).alloc _, by have := Box.new ((w.alloc (.cells #[.int .i64 p.sec, .slice (some ⟨wb, 0, none⟩) p.nw p.nw, .slice (some ⟨yb, 0, none⟩) p.ny p.ny, .slice (some ⟨bb, 0, none⟩) p.nb p.nb, .int .i64 p.hold] 37)).alloc (.cells #[.bool f.ok, .slice (some ⟨ob, 0, none⟩) f.no f.no, .slice (some ⟨pb, 0, none⟩) f.np f.np, .slice (some ⟨hb, 0, none⟩) f.nh f.nh] 42)) 53 #[.slice none 0 0, .slice none 0 0, .slice none 0 0]; simpa using this, by omega⟩
 have hny : p.ny ≤ 1048576 := hs.2.1
 clear hP hF he h4 h5 h0 hs hfs
 go_enter Tryz.func25, Tryz.ntmps25
 go_wp2_with fail
 generalize (((w.alloc (.cells #[.int .i64 p.sec, .slice (some ⟨wb, 0, none⟩) p.nw p.nw, .slice (some ⟨yb, 0, none⟩) p.ny p.ny, .slice (some ⟨bb, 0, none⟩) p.nb p.nb, .int .i64 p.hold] 37)).alloc (.cells #[.bool f.ok, .slice (some ⟨ob, 0, none⟩) f.no f.no, .slice (some ⟨pb, 0, none⟩) f.np f.np, .slice (some ⟨hb, 0, none⟩) f.nh f.nh] 42)).alloc (.cells #[.slice none 0 0, .slice none 0 0, .slice none 0 0] 53)) = V0 at S0 ⊢
 generalize w.heap.size + 1 + 1 = q6 at S0 ⊢
 generalize w.heap.size + 1 = q4
 have HQ6 : Hid (w.heap.size ≤ q6) := S0.out.2.2.2
 refine (desk42 p f wb yb bb lo rr ob pb hb r et ev V0 H.out.2.2.1 H.out.2.2.2 (H.out.1.mono nr S0.out.1 nr) (H.out.2.1.mono nr S0.out.1 nr) (cell_keep S0.out.1 HE.out.2.2.2.1 HE.out.1) (Nat.lt_of_lt_of_le HE.out.2.2.2.1 S0.out.1.size)).mono ?_
 rintro e w1 ⟨hb1, hc⟩
 have S1 : Hid (Below w.heap.size w w1 ∧ Box w1 w.heap.size 37 #[.int .i64 p.sec, .slice (some ⟨wb, 0, none⟩) p.nw p.nw, .slice (some ⟨yb, 0, none⟩) p.ny p.ny, .slice (some ⟨bb, 0, none⟩) p.nb p.nb, .int .i64 p.hold] ∧ Box w1 q6 53 #[.slice none 0 0, .slice none 0 0, .slice none 0 0]) := ⟨S0.out.1.trans (hb1.mono S0.out.1.size), S0.out.2.1.mono hb1 nr, S0.out.2.2.1.mono hb1 nr⟩
 clear hb1 S0
 rcases hc with ⟨hf, rfl⟩ | ⟨hf, ia, ic, v, rfl, hwl⟩
 ·
  have HX : Hid (frameB p f = false) := hf
  clear hf
  have hq6 : q6 < w1.heap.size := S1.out.2.2.lt
  have T : Hid (Below w.heap.size w (w1.alloc (.cells #[.int .i64 0, .slice none 0 0, .slice none 0 0, .slice none 0 0, .int .i64 0, .slice none 0 0, .slice none 0 0, .slice none 0 0] 73)) ∧ Box (w1.alloc (.cells #[.int .i64 0, .slice none 0 0, .slice none 0 0, .slice none 0 0, .int .i64 0, .slice none 0 0, .slice none 0 0, .slice none 0 0] 73)) q6 53 #[.slice none 0 0, .slice none 0 0, .slice none 0 0]) := ⟨S1.out.1.alloc S1.out.1.size _, S1.out.2.2.alloc _⟩
  go_upto_region 3 with fail
  generalize w1.alloc (.cells #[.int .i64 0, .slice none 0 0, .slice none 0 0, .slice none 0 0, .int .i64 0, .slice none 0 0, .slice none 0 0, .slice none 0 0] 73) = V1 at T ⊢
  have SB : Hid (Below w.heap.size w V1 ∧ True ∧ True ∧ Box V1 q6 53 #[.slice none 0 0, .slice none 0 0, .slice none 0 0]) := ⟨T.out.1, trivial, trivial, T.out.2⟩
  have e0 := SB.out.2.2.2.cel 0
  have e1 := SB.out.2.2.2.cel 1
  have e2 := SB.out.2.2.2.cel 2
  have g0 := SB.out.2.2.2.free 0
  have g1 := SB.out.2.2.2.free 1
  have g2 := SB.out.2.2.2.free 2
  have HF : Hid (Below w.heap.size w (((V1.setCell ⟨q6, 0, none⟩ (.slice none 0 0)).setCell ⟨q6, 1, none⟩ (.slice none 0 0)).setCell ⟨q6, 2, none⟩ (.slice none 0 0)) ∧ Box (((V1.setCell ⟨q6, 0, none⟩ (.slice none 0 0)).setCell ⟨q6, 1, none⟩ (.slice none 0 0)).setCell ⟨q6, 2, none⟩ (.slice none 0 0)) q6 53 #[.slice none 0 0, .slice none 0 0, .slice none 0 0]) := ⟨((SB.out.1.setCell HQ6.out _).setCell HQ6.out _).setCell HQ6.out _, ((SB.out.2.2.2.set 0 (.slice none 0 0)).set 1 (.slice none 0 0)).set 2 (.slice none 0 0)⟩
  go_wp2_with fail
  generalize (((V1.setCell ⟨q6, 0, none⟩ (.slice none 0 0)).setCell ⟨q6, 1, none⟩ (.slice none 0 0)).setCell ⟨q6, 2, none⟩ (.slice none 0 0)) = W9 at HF ⊢
  clear e0 e1 e2 g0 g1 g2
  have d0 := HF.out.2.cel 0
  have d1 := HF.out.2.cel 1
  have d2 := HF.out.2.cel 2
  exact bodyPost_ret (v := .agg #[.slice none 0 0, .slice none 0 0, .slice none 0 0]) (by simp [results, Tryz.results25, go_sem, d0, d1, d2]) rfl (BkI.no (by rw [blG, HX.out]; rfl) HF.out.1)
 ·
  have HX : Hid (frameB p f = true) := hf
  clear hf
  have HW0 := hwl.at
  clear hwl
  rw [(frame_in HX.out).2.1] at HW0 ⊢
  have T : Hid (Below w.heap.size w (w1.alloc (.cells #[.int .i64 p.sec, .slice (some ⟨wb, 0, none⟩) p.nw p.nw, .slice (some ⟨yb, 0, none⟩) p.ny p.ny, .slice (some ⟨bb, 0, none⟩) p.nb p.nb, .int .i64 p.hold, .slice (some ⟨ob, 0, none⟩) f.no f.no, .slice (some ⟨pb, 0, none⟩) f.np f.np, .slice ia p.ny ic] 73)) ∧ Box (w1.alloc (.cells #[.int .i64 p.sec, .slice (some ⟨wb, 0, none⟩) p.nw p.nw, .slice (some ⟨yb, 0, none⟩) p.ny p.ny, .slice (some ⟨bb, 0, none⟩) p.nb p.nb, .int .i64 p.hold, .slice (some ⟨ob, 0, none⟩) f.no f.no, .slice (some ⟨pb, 0, none⟩) f.np f.np, .slice ia p.ny ic] 73)) w.heap.size 37 #[.int .i64 p.sec, .slice (some ⟨wb, 0, none⟩) p.nw p.nw, .slice (some ⟨yb, 0, none⟩) p.ny p.ny, .slice (some ⟨bb, 0, none⟩) p.nb p.nb, .int .i64 p.hold] ∧ Box (w1.alloc (.cells #[.int .i64 p.sec, .slice (some ⟨wb, 0, none⟩) p.nw p.nw, .slice (some ⟨yb, 0, none⟩) p.ny p.ny, .slice (some ⟨bb, 0, none⟩) p.nb p.nb, .int .i64 p.hold, .slice (some ⟨ob, 0, none⟩) f.no f.no, .slice (some ⟨pb, 0, none⟩) f.np f.np, .slice ia p.ny ic] 73)) w1.heap.size 73 #[.int .i64 p.sec, .slice (some ⟨wb, 0, none⟩) p.nw p.nw, .slice (some ⟨yb, 0, none⟩) p.ny p.ny, .slice (some ⟨bb, 0, none⟩) p.nb p.nb, .int .i64 p.hold, .slice (some ⟨ob, 0, none⟩) f.no f.no, .slice (some ⟨pb, 0, none⟩) f.np f.np, .slice ia p.ny ic] ∧ Box (w1.alloc (.cells #[.int .i64 p.sec, .slice (some ⟨wb, 0, none⟩) p.nw p.nw, .slice (some ⟨yb, 0, none⟩) p.ny p.ny, .slice (some ⟨bb, 0, none⟩) p.nb p.nb, .int .i64 p.hold, .slice (some ⟨ob, 0, none⟩) f.no f.no, .slice (some ⟨pb, 0, none⟩) f.np f.np, .slice ia p.ny ic] 73)) q6 53 #[.slice none 0 0, .slice none 0 0, .slice none 0 0] ∧ WlAt (w1.alloc (.cells #[.int .i64 p.sec, .slice (some ⟨wb, 0, none⟩) p.nw p.nw, .slice (some ⟨yb, 0, none⟩) p.ny p.ny, .slice (some ⟨bb, 0, none⟩) p.nb p.nb, .int .i64 p.hold, .slice (some ⟨ob, 0, none⟩) f.no f.no, .slice (some ⟨pb, 0, none⟩) f.np f.np, .slice ia p.ny ic] 73)) ia p.ny (fun i => (p.Y i).ns) (stS p f)) := ⟨S1.out.1.alloc S1.out.1.size _, S1.out.2.1.alloc _, Box.new _ _ _, S1.out.2.2.alloc _, HW0.mono (bel1 _ _) nr⟩
  clear HW0
  have a2 := T.out.2.1.cel 2
  go_wp2_with fail
  clear a2
  generalize w1.alloc (.cells #[.int .i64 p.sec, .slice (some ⟨wb, 0, none⟩) p.nw p.nw, .slice (some ⟨yb, 0, none⟩) p.ny p.ny, .slice (some ⟨bb, 0, none⟩) p.nb p.nb, .int .i64 p.hold, .slice (some ⟨ob, 0, none⟩) f.no f.no, .slice (some ⟨pb, 0, none⟩) f.np f.np, .slice ia p.ny ic] 73) = V1 at T ⊢
  generalize w1.heap.size = dq at T ⊢
  refine (place63 _ p.ny p.ny x V1 hny).mono ?_
  rintro e w2 ⟨he, hw⟩
  have hw := hw.symm
  subst hw
  obtain ⟨q, HQ⟩ : ∃ q, Hid (inB x 0 ((p.ny : Int) - 1) = q) := ⟨_, rfl⟩
  rw [HQ.out] at he
  subst he
  cases q with
  | false =>
   have SB : Hid (Below w.heap.size w V1 ∧ True ∧ True ∧ Box V1 q6 53 #[.slice none 0 0, .slice none 0 0, .slice none 0 0]) := ⟨T.out.1, trivial, trivial, T.out.2.2.2.1⟩
   have e0 := SB.out.2.2.2.cel 0
   have e1 := SB.out.2.2.2.cel 1
   have e2 := SB.out.2.2.2.cel 2
   have g0 := SB.out.2.2.2.free 0
   have g1 := SB.out.2.2.2.free 1
   have g2 := SB.out.2.2.2.free 2
   have HF : Hid (Below w.heap.size w (((V1.setCell ⟨q6, 0, none⟩ (.slice none 0 0)).setCell ⟨q6, 1, none⟩ (.slice none 0 0)).setCell ⟨q6, 2, none⟩ (.slice none 0 0)) ∧ Box (((V1.setCell ⟨q6, 0, none⟩ (.slice none 0 0)).setCell ⟨q6, 1, none⟩ (.slice none 0 0)).setCell ⟨q6, 2, none⟩ (.slice none 0 0)) q6 53 #[.slice none 0 0, .slice none 0 0, .slice none 0 0]) := ⟨((SB.out.1.setCell HQ6.out _).setCell HQ6.out _).setCell HQ6.out _, ((SB.out.2.2.2.set 0 (.slice none 0 0)).set 1 (.slice none 0 0)).set 2 (.slice none 0 0)⟩
   go_wp2_with fail
   generalize (((V1.setCell ⟨q6, 0, none⟩ (.slice none 0 0)).setCell ⟨q6, 1, none⟩ (.slice none 0 0)).setCell ⟨q6, 2, none⟩ (.slice none 0 0)) = W9 at HF ⊢
   clear e0 e1 e2 g0 g1 g2
   have d0 := HF.out.2.cel 0
   have d1 := HF.out.2.cel 1
   have d2 := HF.out.2.cel 2
   exact bodyPost_ret (v := .agg #[.slice none 0 0, .slice none 0 0, .slice none 0 0]) (by simp [results, Tryz.results25, go_sem, d0, d1, d2]) rfl (BkI.no (by rw [blG, HX.out, HQ.out]; rfl) HF.out.1)
  | true =>
   obtain ⟨i, rfl, hlt⟩ := inB_nat HQ.out
   have HGG : Hid (blG p f (i : Int) = true) := by rw [Hid, blG, HX.out, HQ.out]; rfl
   have d0 := T.out.2.2.1.cel 0
   have d1 := T.out.2.2.1.cel 1
   have d2 := T.out.2.2.1.cel 2
   have d3 := T.out.2.2.1.cel 3
   have d4 := T.out.2.2.1.cel 4
   have d5 := T.out.2.2.1.cel 5
   have d6 := T.out.2.2.1.cel 6
   have d7 := T.out.2.2.1.cel 7
   go_wp2_with fail
   clear d0 d1 d2 d3 d4 d5 d6 d7
   have FI := (H.out.2.1.mono nr T.out.1 nr).in (Nat.le_refl 0)
   refine (stays64 p wb yb bb lo rr ob 0 f.no f.no pb 0 f.np f.np ia ic f.O f.P (stS p f) (fun i => (p.Y i).ns) i t4 t5 v4 v5 V1 hlt H.out.2.2.1 (frame_in HX.out).1 (H.out.1.mono nr T.out.1 nr) T.out.2.2.2.2 FI.o FI.p ((frame_in HX.out).2.2.2.2 i hlt) H.out.2.2.2.1 H.out.2.2.2.2.1 (frame_in HX.out).2.2.1 (frame_in HX.out).2.2.2.1 (frame_sw HX.out) (cell_keep T.out.1 HE.out.2.2.2.2.1 HE.out.2.1) (cell_keep T.out.1 HE.out.2.2.2.2.2 HE.out.2.2.1) (Nat.lt_of_lt_of_le HE.out.2.2.2.2.1 T.out.1.size) (Nat.lt_of_lt_of_le HE.out.2.2.2.2.2 T.out.1.size)).mono ?_
   clear FI
   rintro e w3 ⟨a1, c1, a2, c2, a3, c3, rfl, o1, o2, o3, k1, k2, hb3⟩
   have HSN : Hid (p.sec.toNat = f.no) := by have := (frame_in HX.out).2.2.2.1; simp only [Hid]; omega
   have HC1 : Hid (selN (fun k => agS p (stS p f) i k) p.ny = bl1 p f (i : Int) ∧ selD (fun k => agS p (stS p f) i k) p.ny = selD (fun k => agB p f (i : Int).toNat k) p.ny) := by
    have hcg := sel_congr (q := fun k => agS p (stS p f) i k) (r := fun k => agB p f i k) (n := p.ny) fun k hk => ag_same HX.out i hk
    exact ⟨by rw [bl1, HGG.out, if_pos rfl]; exact hcg.1, hcg.2⟩
   have HC2 : Hid (selN (scQ p f.O i) p.sec.toNat = bl2 p f (i : Int) ∧ selD (scQ p f.O i) p.sec.toNat = selD (scQ p f.O (i : Int).toNat) f.no) := by
    rw [Hid, HSN.out]
    exact ⟨by rw [bl2, HGG.out, if_pos rfl]; rfl, rfl⟩
   have HC3 : Hid (selN (swQ p f.O f.P (stS p f) i) p.nw = bl3 p f (i : Int) ∧ selD (swQ p f.O f.P (stS p f) i) p.nw = selD (swB p f (i : Int).toNat) p.nw) := by
    have hcg := sel_congr (q := swQ p f.O f.P (stS p f) i) (r := swB p f i) (n := p.nw) fun k _ => sw_same HX.out hlt k
    exact ⟨by rw [bl3, HGG.out, if_pos rfl]; exact hcg.1, hcg.2⟩
   rw [HC1.out.1] at o1 k1
   rw [HC1.out.2] at o1
   rw [HC2.out.1] at o2 k1 k2
   rw [HC2.out.2] at o2
   rw [HC3.out.1] at o3 k1 k2
   rw [HC3.out.2] at o3
   rw [HC1.out.1, HC2.out.1, HC3.out.1]
   have HXX : Hid (∀ n1 n2 n3, bl1 p f (i : Int) = n1 → bl2 p f (i : Int) = n2 → bl3 p f (i : Int) = n3 → (Below w.heap.size w w3 ∧ Box w3 q6 53 #[.slice none 0 0, .slice none 0 0, .slice none 0 0] ∧ VOwn V1.heap.size 3 1 w3 (.slice a1 n1 c1) n1 (oneF (selD (fun k => agB p f (i : Int).toNat k) p.ny)) ∧ VOwn V1.heap.size 3 1 w3 (.slice a2 n2 c2) n2 (oneF (selD (scQ p f.O (i : Int).toNat) f.no)) ∧ VOwn V1.heap.size 3 1 w3 (.slice a3 n3 c3) n3 (oneF (selD (swB p f (i : Int).toNat) p.nw)) ∧ w.heap.size ≤ V1.heap.size)) := by
    intro n1 n2 n3 e1 e2 e3
    subst e1 e2 e3
    exact ⟨T.out.1.trans (hb3.mono T.out.1.size), T.out.2.2.2.1.mono hb3 nr, o1, o2, o3, T.out.1.size⟩
   have HK : Hid ((∀ g, (Value.slice a1 (bl1 p f (i : Int)) c1).ownBlock = some g → (Value.slice a2 (bl2 p f (i : Int)) c2).ownBlock ≠ some g ∧ (Value.slice a3 (bl3 p f (i : Int)) c3).ownBlock ≠ some g) ∧ ∀ g, (Value.slice a2 (bl2 p f (i : Int)) c2).ownBlock = some g → (Value.slice a3 (bl3 p f (i : Int)) c3).ownBlock ≠ some g) := ⟨k1, k2⟩
   clear o1 o2 o3 k1 k2 hb3 T HC1 HC2 HC3 S1
   obtain ⟨n1, HN1⟩ : ∃ n, Hid (bl1 p f (i : Int) = n) := ⟨_, rfl⟩
   obtain ⟨n2, HN2⟩ : ∃ n, Hid (bl2 p f (i : Int) = n) := ⟨_, rfl⟩
   obtain ⟨n3, HN3⟩ : ∃ n, Hid (bl3 p f (i : Int) = n) := ⟨_, rfl⟩
   have HX3 := HXX.out n1 n2 n3 HN1.out HN2.out HN3.out
   clear HXX
   have HFX : Hid (Below w.heap.size w (((w3.setCell ⟨q6, 0, none⟩ (.slice a1 n1 c1)).setCell ⟨q6, 1, none⟩ (.slice a2 n2 c2)).setCell ⟨q6, 2, none⟩ (.slice a3 n3 c3)) ∧ Box (((w3.setCell ⟨q6, 0, none⟩ (.slice a1 n1 c1)).setCell ⟨q6, 1, none⟩ (.slice a2 n2 c2)).setCell ⟨q6, 2, none⟩ (.slice a3 n3 c3)) q6 53 #[.slice a1 n1 c1, .slice a2 n2 c2, .slice a3 n3 c3] ∧ VOwn w.heap.size 3 1 (((w3.setCell ⟨q6, 0, none⟩ (.slice a1 n1 c1)).setCell ⟨q6, 1, none⟩ (.slice a2 n2 c2)).setCell ⟨q6, 2, none⟩ (.slice a3 n3 c3)) (.slice a1 n1 c1) n1 (oneF (selD (fun k => agB p f (i : Int).toNat k) p.ny)) ∧ VOwn w.heap.size 3 1 (((w3.setCell ⟨q6, 0, none⟩ (.slice a1 n1 c1)).setCell ⟨q6, 1, none⟩ (.slice a2 n2 c2)).setCell ⟨q6, 2, none⟩ (.slice a3 n3 c3)) (.slice a2 n2 c2) n2 (oneF (selD (scQ p f.O (i : Int).toNat) f.no)) ∧ VOwn w.heap.size 3 1 (((w3.setCell ⟨q6, 0, none⟩ (.slice a1 n1 c1)).setCell ⟨q6, 1, none⟩ (.slice a2 n2 c2)).setCell ⟨q6, 2, none⟩ (.slice a3 n3 c3)) (.slice a3 n3 c3) n3 (oneF (selD (swB p f (i : Int).toNat) p.nw))) := by
    have k0 := HX3.2.1
    have k1 := k0.set 0 (.slice a1 n1 c1)
    have k2 := k1.set 1 (.slice a2 n2 c2)
    have k3 := k2.set 2 (.slice a3 n3 c3)
    have hz := HX3.2.2.2.2.2
    exact ⟨((HX3.1.setCell HQ6.out _).setCell HQ6.out _).setCell HQ6.out _, k3, (((HX3.2.2.1.set k0 (by decide) _ _).set k1 (by decide) _ _).set k2 (by decide) _ _).keep hz fun _ _ => rfl, (((HX3.2.2.2.1.set k0 (by decide) _ _).set k1 (by decide) _ _).set k2 (by decide) _ _).keep hz fun _ _ => rfl, (((HX3.2.2.2.2.1.set k0 (by decide) _ _).set k1 (by decide) _ _).set k2 (by decide) _ _).keep hz fun _ _ => rfl⟩
   rw [HN1.out, HN2.out, HN3.out]
   have e0 := HX3.2.1.cel 0
   have e1 := HX3.2.1.cel 1
   have e2 := HX3.2.1.cel 2
   have g0 := HX3.2.1.free 0
   have g1 := HX3.2.1.free 1
   have g2 := HX3.2.1.free 2
   clear HX3
   go_wp2_with fail
   generalize (((w3.setCell ⟨q6, 0, none⟩ (.slice a1 n1 c1)).setCell ⟨q6, 1, none⟩ (.slice a2 n2 c2)).setCell ⟨q6, 2, none⟩ (.slice a3 n3 c3)) = W9 at HFX ⊢
   clear e0 e1 e2 g0 g1 g2
   have d0 := HFX.out.2.1.cel 0
   have d1 := HFX.out.2.1.cel 1
   have d2 := HFX.out.2.1.cel 2
   refine bodyPost_ret (v := .agg #[.slice a1 n1 c1, .slice a2 n2 c2, .slice a3 n3 c3]) (by simp [results, Tryz.results25, go_sem, d0, d1, d2]) rfl ⟨a1, c1, a2, c2, a3, c3, ?_, ?_, ?_, ?_, HK.out.1, HK.out.2, HFX.out.1⟩
   ·
    rw [HN1.out, HN2.out, HN3.out]
   ·
    rw [HN1.out]
    exact HFX.out.2.2.1
   ·
    rw [HN2.out]
    exact HFX.out.2.2.2.1
   ·
    rw [HN3.out]
    exact HFX.out.2.2.2.2
end Go.Proofs.YtlgapgajgpilgaaGreatDoor
