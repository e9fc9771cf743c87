import Derived.Test.YtlgapgajgpilgaaGreatDoorZbm
import Derived.Test.YtlgapgajgpilgaaGreatDoorZbd
import Derived.Test.YtlgapgajgpilgaaGreatDoorZap
import Derived.Test.YtlgapgajgpilgaaGreatDoorZba
namespace Go.Proofs.YtlgapgajgpilgaaGreatDoor
open Go.RowKit Go.Lib
theorem inB_nat {k : Int} {n : Nat} (h : inB k 0 ((n : Int) - 1) = true) : ∃ i : Nat, k = (i : Int) ∧ i < n := by
 simp only [inB, Bool.and_eq_true, decide_eq_true_eq] at h
 exact ⟨k.toNat, by omega, by omega⟩
def ptG (p : Pl) (f : Fm) (x : Int) : Bool := frameB p f && inB x 0 ((p.nw : Int) - 1)
def ptN (p : Pl) (f : Fm) (x : Int) : Nat := if ptG p f x then selN (fun i => wantsB p f i x.toNat) p.ny else 0
def ptD (p : Pl) (f : Fm) (x : Int) : Nat → Int := selD (fun i => wantsB p f i x.toNat) p.ny
def PtR (w : World) (p : Pl) (f : Fm) (x : Int) (e : Ending) (w' : World) : Prop :=
 ∃ va vc, e = .returned (.slice va (ptN p f x) vc) ∧ VOwn w.heap.size 3 1 w' (.slice va (ptN p f x) vc) (ptN p f x) (oneF (ptD p f x)) ∧ Below w.heap.size w w'
theorem ptN_le {p : Pl} (f : Fm) (x : Int) : ptN p f x ≤ p.ny := by
 unfold ptN
 split
 ·
  exact selN_le _ _
 ·
  exact Nat.zero_le _
theorem PtR.no {w w' : World} {p : Pl} {f : Fm} {x : Int} (h : ptG p f x = false) (hb : Below w.heap.size w w') : PtR w p f x (.returned (.slice none 0 0)) w' := by
 have e : ptN p f x = 0 := by rw [ptN, h]; rfl
 exact ⟨none, 0, by rw [e], by rw [e]; exact VOwn.nil _ _ _ _ _, hb⟩
theorem sel_congr {q r : Nat → Bool} : ∀ {n : Nat}, (∀ i, i < n → q i = r i) → selN q n = selN r n ∧ selD q n = selD r n
 | 0, _ => ⟨rfl, rfl⟩
 | n + 1, h => by
  obtain ⟨h1, h2⟩ := sel_congr (n := n) fun i hi => h i (by omega)
  have h3 := h n (by omega)
  simp only [selN, selD, h3, h1, h2]
  exact ⟨trivial, trivial⟩
theorem PtR.of_sel {w w0 w' : World} {p : Pl} {f : Fm} {q : Nat → Bool} {x : Nat} {e : Ending} (hg : ptG p f (x : Int) = true) (hq : ∀ i, i < p.ny → q i = wantsB p f i x) (h : SelR w0 q p.ny e w') (hb : Below w.heap.size w w0) : PtR w p f (x : Int) e w' := by
 obtain ⟨va, vc, e1, h1, h2⟩ := h
 obtain ⟨c1, c2⟩ := sel_congr hq
 have e2 : ptN p f (x : Int) = selN q p.ny := by rw [ptN, hg, if_pos rfl, c1]; rfl
 have e3 : ptD p f (x : Int) = selD q p.ny := by rw [ptD, c2]; rfl
 exact ⟨va, vc, by rw [e1, e2], by rw [e2, e3]; exact h1.keep hb.size fun _ _ => rfl, hb.trans (h2.mono hb.size)⟩
set_option maxRecDepth 100000 in
set_option maxHeartbeats 8000000 in
theorem point15 (p : Pl) (f : Fm) (wa ya ba : Option Addr) (wc yc bc : Nat) (ob oo pb po : Nat) (ha : Option Addr) (oc pc hc : Nat) (x : Int) (w : World) (hs : p.small) (hfs : f.small) (h : PlIn 0 w p wa ya ba) (hf : FmIn 0 w f (some ⟨ob, oo, none⟩) (some ⟨pb, po, none⟩) ha) :
  Calls Tryz.prog 15 #[.agg #[.int .i64 p.sec, .slice wa p.nw wc, .slice ya p.ny yc, .slice ba p.nb bc, .int .i64 p.hold], .agg #[.bool f.ok, .slice (some ⟨ob, oo, none⟩) f.no oc, .slice (some ⟨pb, po, none⟩) f.np pc, .slice ha f.nh hc], .int .i64 x] w fun e w' => PtR w p f x e w' := by
 have H : Hid (PlIn 0 w p wa ya ba ∧ FmIn 0 w f (some ⟨ob, oo, none⟩) (some ⟨pb, po, none⟩) ha ∧ p.small ∧ f.small) := ⟨h, hf, hs, hfs⟩
 have S0 : Hid (Below w.heap.size w ((w.alloc (.cells #[.int .i64 p.sec, .slice wa p.nw wc, .slice ya p.ny yc, .slice ba p.nb bc, .int .i64 p.hold] 37)).alloc (.cells #[.bool f.ok, .slice (some ⟨ob, oo, none⟩) f.no oc, .slice (some ⟨pb, po, none⟩) f.np pc, .slice ha f.nh hc] 42)) ∧ Box ((w.alloc (.cells #[.int .i64 p.sec, .slice wa p.nw wc, .slice ya p.ny yc, .slice ba p.nb bc, .int .i64 p.hold] 37)).alloc (.cells #[.bool f.ok, .slice (some ⟨ob, oo, none⟩) f.no oc, .slice (some ⟨pb, po, none⟩) f.np pc, .slice ha f.nh hc] 42)) w.heap.size 37 #[.int .i64 p.sec, .slice wa p.nw wc, .slice ya p.ny yc, .slice ba p.nb bc, .int .i64 p.hold] ∧ Box ((w.alloc (.cells #[.int .i64 p.sec, .slice wa p.nw wc, .slice ya p.ny yc, .slice ba p.nb bc, .int .i64 p.hold] 37)).alloc (.cells #[.bool f.ok, .slice (some ⟨ob, oo, none⟩) f.no oc, .slice (some ⟨pb, po, none⟩) f.np pc, .slice ha f.nh hc] 42)) (w.heap.size + 1) 42 #[.bool f.ok, .slice (some ⟨ob, oo, none⟩) f.no oc, .slice (some ⟨pb, po, none⟩) f.np pc, .slice ha f.nh hc]) := ⟨bel2 _ _ _, (Box.new _ _ _).alloc _, by have := Box.new (w.alloc (.cells #[.int .i64 p.sec, .slice wa p.nw wc, .slice ya p.ny yc, .slice ba p.nb bc, .int .i64 p.hold] 37)) 42 #[.bool f.ok, .slice (some ⟨ob, oo, none⟩) f.no oc, .slice (some ⟨pb, po, none⟩) f.np pc, .slice ha f.nh hc]; simpa using this⟩
 have hnw : p.nw ≤ 1048576 := hs.1
 clear h hf hs hfs
 go_enter Tryz.func15, Tryz.ntmps15
 go_wp2_with fail
 generalize ((w.alloc (.cells #[.int .i64 p.sec, .slice wa p.nw wc, .slice ya p.ny yc, .slice ba p.nb bc, .int .i64 p.hold] 37)).alloc (.cells #[.bool f.ok, .slice (some ⟨ob, oo, none⟩) f.no oc, .slice (some ⟨pb, po, none⟩) f.np pc, .slice ha f.nh hc] 42)) = V0 at S0 ⊢
 refine (frame8 p f wa ya ba wc yc bc ob oo pb po ha oc pc hc V0 H.out.2.2.1 H.out.2.2.2 (H.out.1.mono (Nat.le_refl _) S0.out.1 (Nat.le_refl _)) (H.out.2.1.mono (Nat.le_refl _) S0.out.1 (Nat.le_refl _))).mono ?_
 rintro e w1 ⟨he, hb1⟩
 have S1 : Hid (Below w.heap.size w w1 ∧ Box w1 w.heap.size 37 #[.int .i64 p.sec, .slice wa p.nw wc, .slice ya p.ny yc, .slice ba p.nb bc, .int .i64 p.hold] ∧ Box w1 (w.heap.size + 1) 42 #[.bool f.ok, .slice (some ⟨ob, oo, none⟩) f.no oc, .slice (some ⟨pb, po, none⟩) f.np pc, .slice ha f.nh hc]) := ⟨S0.out.1.trans (hb1.mono S0.out.1.size), S0.out.2.1.mono hb1 (Nat.le_refl _), S0.out.2.2.mono hb1 (Nat.le_refl _)⟩
 clear hb1 S0
 obtain ⟨g, HG⟩ : ∃ g, Hid (frameB p f = g) := ⟨_, rfl⟩
 rw [HG.out] at he
 subst he
 cases g with
 | false =>
  have HE : Hid (PtR w p f x (.returned (.slice none 0 0)) w1) := PtR.no (by rw [ptG, HG.out]; rfl) S1.out.1
  go_wp2_with fail
  go_ret
  exact HE.out
 | true =>
  have a1 : w1.cell? ⟨w.heap.size, 1, none⟩ = some (.slice wa p.nw wc) := S1.out.2.1.cell 1
  go_wp2_with fail
  clear a1
  refine (in24 x 0 ((p.nw : Int) - 1) _).mono ?_
  rintro e w2 ⟨he, hw⟩
  have hw := hw.symm
  subst hw
  obtain ⟨q, HQ⟩ : ∃ q, Hid (inB x 0 ((p.nw : Int) - 1) = q) := ⟨_, rfl⟩
  rw [HQ.out] at he
  subst he
  cases q with
  | false =>
   have HE : Hid (PtR w p f x (.returned (.slice none 0 0)) w1) := PtR.no (by rw [ptG, HG.out, HQ.out]; rfl) S1.out.1
   go_wp2_with fail
   go_ret
   exact HE.out
  | true =>
   obtain ⟨i, rfl, hlt⟩ := inB_nat HQ.out
   have a0 : w1.cell? ⟨w.heap.size, 0, none⟩ = some (.int .i64 p.sec) := S1.out.2.1.cell 0
   have a1 : w1.cell? ⟨w.heap.size, 1, none⟩ = some (.slice wa p.nw wc) := S1.out.2.1.cell 1
   have a2 : w1.cell? ⟨w.heap.size, 2, none⟩ = some (.slice ya p.ny yc) := S1.out.2.1.cell 2
   have a3 : w1.cell? ⟨w.heap.size, 3, none⟩ = some (.slice ba p.nb bc) := S1.out.2.1.cell 3
   have a4 : w1.cell? ⟨w.heap.size, 4, none⟩ = some (.int .i64 p.hold) := S1.out.2.1.cell 4
   have b0 : w1.cell? ⟨(w.heap.size + 1), 0, none⟩ = some (.bool f.ok) := S1.out.2.2.cell 0
   have b1 : w1.cell? ⟨(w.heap.size + 1), 1, none⟩ = some (.slice (some ⟨ob, oo, none⟩) f.no oc) := S1.out.2.2.cell 1
   have b2 : w1.cell? ⟨(w.heap.size + 1), 2, none⟩ = some (.slice (some ⟨pb, po, none⟩) f.np pc) := S1.out.2.2.cell 2
   have b3 : w1.cell? ⟨(w.heap.size + 1), 3, none⟩ = some (.slice ha f.nh hc) := S1.out.2.2.cell 3
   go_wp2_with fail
   clear a0 a1 a2 a3 a4 b0 b1 b2 b3
   refine (point51 p f wa ya ba (some ⟨ob, oo, none⟩) (some ⟨pb, po, none⟩) ha wc yc bc oc pc hc i w1 H.out.2.2.1 H.out.2.2.2.2.2.1 (frame_in HG.out).2.1 (frame_in HG.out).1 hlt (H.out.1.mono (Nat.le_refl _) S1.out.1 (Nat.le_refl _)) (H.out.2.1.h.mono (Nat.le_refl _) S1.out.1 (Nat.le_refl _))).mono ?_
   intro e w3 hsel
   have HE : Hid (PtR w p f (i : Int) e w3) := PtR.of_sel (by rw [ptG, HG.out, HQ.out]; rfl) (fun _ _ => rfl) hsel S1.out.1
   obtain ⟨va, vc, rfl, _, _⟩ := hsel
   go_wp2_with fail
   go_ret
   exact HE.out
set_option maxRecDepth 100000 in
set_option maxHeartbeats 8000000 in
theorem point16 (p : Pl) (f : Fm) (wb yb bb : Nat) (lo rr : Nat → Nat) (ob pb hb : Nat) (r : Nat → Nat) (et : TypeId) (ev : Value) (x : Int) (w : World) (hs : p.small) (hfs : f.small) (hP : PlOwn 0 w p wb yb bb lo rr) (hF : FmOwn 0 w f (.slice (some ⟨ob, 0, none⟩) f.no f.no) (.slice (some ⟨pb, 0, none⟩) f.np f.np) (.slice (some ⟨hb, 0, none⟩) f.nh f.nh) r) (he : w.cell? ⟨0, 0, none⟩ = some (.iface et ev)) (h0 : 0 < w.heap.size) :
  Calls Tryz.prog 16 #[.agg #[.int .i64 p.sec, .slice (some ⟨wb, 0, none⟩) p.nw p.nw, .slice (some ⟨yb, 0, none⟩) p.ny p.ny, .slice (some ⟨bb, 0, none⟩) p.nb p.nb, .int .i64 p.hold], .agg #[.bool f.ok, .slice (some ⟨ob, 0, none⟩) f.no f.no, .slice (some ⟨pb, 0, none⟩) f.np f.np, .slice (some ⟨hb, 0, none⟩) f.nh f.nh], .int .i64 x] w fun e w' => PtR w p f x e w' := by
 have H : Hid (PlOwn 0 w p wb yb bb lo rr ∧ FmOwn 0 w f (.slice (some ⟨ob, 0, none⟩) f.no f.no) (.slice (some ⟨pb, 0, none⟩) f.np f.np) (.slice (some ⟨hb, 0, none⟩) f.nh f.nh) r ∧ w.cell? ⟨0, 0, none⟩ = some (.iface et ev) ∧ 0 < w.heap.size ∧ p.small ∧ f.small) := ⟨hP, hF, he, h0, hs, hfs⟩
 have S0 : Hid (Below w.heap.size w ((w.alloc (.cells #[.int .i64 p.sec, .slice (some ⟨wb, 0, none⟩) p.nw p.nw, .slice (some ⟨yb, 0, none⟩) p.ny p.ny, .slice (some ⟨bb, 0, none⟩) p.nb p.nb, .int .i64 p.hold] 37)).alloc (.cells #[.bool f.ok, .slice (some ⟨ob, 0, none⟩) f.no f.no, .slice (some ⟨pb, 0, none⟩) f.np f.np, .slice (some ⟨hb, 0, none⟩) f.nh f.nh] 42)) ∧ Box ((w.alloc (.cells #[.int .i64 p.sec, .slice (some ⟨wb, 0, none⟩) p.nw p.nw, .slice (some ⟨yb, 0, none⟩) p.ny p.ny, .slice (some ⟨bb, 0, none⟩) p.nb p.nb, .int .i64 p.hold] 37)).alloc (.cells #[.bool f.ok, .slice (some ⟨ob, 0, none⟩) f.no f.no, .slice (some ⟨pb, 0, none⟩) f.np f.np, .slice (some ⟨hb, 0, none⟩) f.nh f.nh] 42)) w.heap.size 37 #[.int .i64 p.sec, .slice (some ⟨wb, 0, none⟩) p.nw p.nw, .slice (some ⟨yb, 0, none⟩) p.ny p.ny, .slice (some ⟨bb, 0, none⟩) p.nb p.nb, .int .i64 p.hold]) := ⟨bel2 _ _ _, (Box.new _ _ _).alloc _⟩
 have hnw : p.nw ≤ 1048576 := hs.1
 clear hP hF he h0 hs hfs
 go_enter Tryz.func16, Tryz.ntmps16
 go_wp2_with fail
 generalize ((w.alloc (.cells #[.int .i64 p.sec, .slice (some ⟨wb, 0, none⟩) p.nw p.nw, .slice (some ⟨yb, 0, none⟩) p.ny p.ny, .slice (some ⟨bb, 0, none⟩) p.nb p.nb, .int .i64 p.hold] 37)).alloc (.cells #[.bool f.ok, .slice (some ⟨ob, 0, none⟩) f.no f.no, .slice (some ⟨pb, 0, none⟩) f.np f.np, .slice (some ⟨hb, 0, none⟩) f.nh f.nh] 42)) = V0 at S0 ⊢
 refine (desk42 p f wb yb bb lo rr ob pb hb r et ev V0 H.out.2.2.2.2.1 H.out.2.2.2.2.2 (H.out.1.mono (Nat.le_refl _) S0.out.1 (Nat.le_refl _)) (H.out.2.1.mono (Nat.le_refl _) S0.out.1 (Nat.le_refl _)) (cell_keep S0.out.1 H.out.2.2.2.1 H.out.2.2.1) (Nat.lt_of_lt_of_le H.out.2.2.2.1 S0.out.1.size)).mono ?_
 rintro e w1 ⟨hb1, hc⟩
 have HB : Hid (Below w.heap.size w w1 ∧ Box w1 w.heap.size 37 #[.int .i64 p.sec, .slice (some ⟨wb, 0, none⟩) p.nw p.nw, .slice (some ⟨yb, 0, none⟩) p.ny p.ny, .slice (some ⟨bb, 0, none⟩) p.nb p.nb, .int .i64 p.hold]) := ⟨S0.out.1.trans (hb1.mono S0.out.1.size), S0.out.2.mono hb1 (Nat.le_refl _)⟩
 clear hb1 S0
 rcases hc with ⟨hf, rfl⟩ | ⟨hf, ia, ic, v, rfl, hwl⟩
 ·
  have HX : Hid (frameB p f = false) := hf
  clear hf
  go_wp2_with fail
  go_ret
  exact PtR.no (by rw [ptG, HX.out]; rfl) (HB.out.1.alloc HB.out.1.size _)
 ·
  have HX : Hid (frameB p f = true) := hf
  clear hf
  have HW0 := hwl.at
  clear hwl
  rw [(frame_in HX.out).2.1] at HW0 ⊢
  have T : Hid (Below w.heap.size w (w1.alloc (.cells #[.int .i64 p.sec, .slice (some ⟨wb, 0, none⟩) p.nw p.nw, .slice (some ⟨yb, 0, none⟩) p.ny p.ny, .slice (some ⟨bb, 0, none⟩) p.nb p.nb, .int .i64 p.hold, .slice (some ⟨ob, 0, none⟩) f.no f.no, .slice (some ⟨pb, 0, none⟩) f.np f.np, .slice ia p.ny ic] 73)) ∧ Box (w1.alloc (.cells #[.int .i64 p.sec, .slice (some ⟨wb, 0, none⟩) p.nw p.nw, .slice (some ⟨yb, 0, none⟩) p.ny p.ny, .slice (some ⟨bb, 0, none⟩) p.nb p.nb, .int .i64 p.hold, .slice (some ⟨ob, 0, none⟩) f.no f.no, .slice (some ⟨pb, 0, none⟩) f.np f.np, .slice ia p.ny ic] 73)) w.heap.size 37 #[.int .i64 p.sec, .slice (some ⟨wb, 0, none⟩) p.nw p.nw, .slice (some ⟨yb, 0, none⟩) p.ny p.ny, .slice (some ⟨bb, 0, none⟩) p.nb p.nb, .int .i64 p.hold] ∧ Box (w1.alloc (.cells #[.int .i64 p.sec, .slice (some ⟨wb, 0, none⟩) p.nw p.nw, .slice (some ⟨yb, 0, none⟩) p.ny p.ny, .slice (some ⟨bb, 0, none⟩) p.nb p.nb, .int .i64 p.hold, .slice (some ⟨ob, 0, none⟩) f.no f.no, .slice (some ⟨pb, 0, none⟩) f.np f.np, .slice ia p.ny ic] 73)) w1.heap.size 73 #[.int .i64 p.sec, .slice (some ⟨wb, 0, none⟩) p.nw p.nw, .slice (some ⟨yb, 0, none⟩) p.ny p.ny, .slice (some ⟨bb, 0, none⟩) p.nb p.nb, .int .i64 p.hold, .slice (some ⟨ob, 0, none⟩) f.no f.no, .slice (some ⟨pb, 0, none⟩) f.np f.np, .slice ia p.ny ic] ∧ WlAt (w1.alloc (.cells #[.int .i64 p.sec, .slice (some ⟨wb, 0, none⟩) p.nw p.nw, .slice (some ⟨yb, 0, none⟩) p.ny p.ny, .slice (some ⟨bb, 0, none⟩) p.nb p.nb, .int .i64 p.hold, .slice (some ⟨ob, 0, none⟩) f.no f.no, .slice (some ⟨pb, 0, none⟩) f.np f.np, .slice ia p.ny ic] 73)) ia p.ny (fun i => (p.Y i).ns) (stS p f)) := ⟨HB.out.1.alloc HB.out.1.size _, HB.out.2.alloc _, Box.new _ _ _, HW0.mono (bel1 _ _) (Nat.le_refl _)⟩
  clear HW0
  have a1 : (w1.alloc (.cells #[.int .i64 p.sec, .slice (some ⟨wb, 0, none⟩) p.nw p.nw, .slice (some ⟨yb, 0, none⟩) p.ny p.ny, .slice (some ⟨bb, 0, none⟩) p.nb p.nb, .int .i64 p.hold, .slice (some ⟨ob, 0, none⟩) f.no f.no, .slice (some ⟨pb, 0, none⟩) f.np f.np, .slice ia p.ny ic] 73)).cell? ⟨w.heap.size, 1, none⟩ = some (.slice (some ⟨wb, 0, none⟩) p.nw p.nw) := T.out.2.1.cell 1
  go_wp2_with fail
  clear a1
  generalize w1.alloc (.cells #[.int .i64 p.sec, .slice (some ⟨wb, 0, none⟩) p.nw p.nw, .slice (some ⟨yb, 0, none⟩) p.ny p.ny, .slice (some ⟨bb, 0, none⟩) p.nb p.nb, .int .i64 p.hold, .slice (some ⟨ob, 0, none⟩) f.no f.no, .slice (some ⟨pb, 0, none⟩) f.np f.np, .slice ia p.ny ic] 73) = V1 at T ⊢
  generalize w1.heap.size = dq at T ⊢
  refine (place68 _ p.nw p.nw x V1 hnw).mono ?_
  rintro e w2 ⟨he, hw⟩
  have hw := hw.symm
  subst hw
  obtain ⟨q, HQ⟩ : ∃ q, Hid (inB x 0 ((p.nw : Int) - 1) = q) := ⟨_, rfl⟩
  rw [HQ.out] at he
  subst he
  cases q with
  | false =>
   have HE : Hid (PtR w p f x (.returned (.slice none 0 0)) V1) := PtR.no (by rw [ptG, HX.out, HQ.out]; rfl) T.out.1
   go_wp2_with fail
   go_ret
   exact HE.out
  | true =>
   obtain ⟨i, rfl, hlt⟩ := inB_nat HQ.out
   have d0 : V1.cell? ⟨dq, 0, none⟩ = some (.int .i64 p.sec) := T.out.2.2.1.cell 0
   have d1 : V1.cell? ⟨dq, 1, none⟩ = some (.slice (some ⟨wb, 0, none⟩) p.nw p.nw) := T.out.2.2.1.cell 1
   have d2 : V1.cell? ⟨dq, 2, none⟩ = some (.slice (some ⟨yb, 0, none⟩) p.ny p.ny) := T.out.2.2.1.cell 2
   have d3 : V1.cell? ⟨dq, 3, none⟩ = some (.slice (some ⟨bb, 0, none⟩) p.nb p.nb) := T.out.2.2.1.cell 3
   have d4 : V1.cell? ⟨dq, 4, none⟩ = some (.int .i64 p.hold) := T.out.2.2.1.cell 4
   have d5 : V1.cell? ⟨dq, 5, none⟩ = some (.slice (some ⟨ob, 0, none⟩) f.no f.no) := T.out.2.2.1.cell 5
   have d6 : V1.cell? ⟨dq, 6, none⟩ = some (.slice (some ⟨pb, 0, none⟩) f.np f.np) := T.out.2.2.1.cell 6
   have d7 : V1.cell? ⟨dq, 7, none⟩ = some (.slice ia p.ny ic) := T.out.2.2.1.cell 7
   go_wp2_with fail
   clear d0 d1 d2 d3 d4 d5 d6 d7
   refine (wanting53 p wb yb bb lo rr (some ⟨ob, 0, none⟩) f.no f.no (some ⟨pb, 0, none⟩) f.np f.np ia ic (stS p f) (fun i => (p.Y i).ns) i V1 hlt H.out.2.2.2.2.1 (H.out.1.mono (Nat.le_refl _) T.out.1 (Nat.le_refl _)) T.out.2.2.2).mono ?_
   intro e w3 hsel
   have HE : Hid (PtR w p f (i : Int) e w3) := PtR.of_sel (by rw [ptG, HX.out, HQ.out]; rfl) (fun k hk => wants_same HX.out hk i) hsel T.out.1
   obtain ⟨va, vc, rfl, _, _⟩ := hsel
   go_wp2_with fail
   go_ret
   exact HE.out
end Go.Proofs.YtlgapgajgpilgaaGreatDoor
