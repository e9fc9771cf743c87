import Derived.Test.YtkeilejbelblcaaGreatDoorK17
import Derived.Test.YtkeilejbelblcaaGreatDoorH15
import Derived.Test.YtkeilejbelblcaaGreatDoorH2
import Derived.Test.YtkeilejbelblcaaGreatDoorK9
import Derived.Test.YtkeilejbelblcaaGreatDoorGK5K6
namespace Go.Proofs.YtkeilejbelblcaaGreatDoor
open Go.RowKit Go.Lib

set_option maxHeartbeats 400000 in
theorem placeW (a : Option Addr) (n cap : Nat) (x : Int) (w : World) (hn : n ≤ 1048576) :
    Calls Tryz.prog 67 #[.slice a n cap, .int .i64 x] w fun e w' => e = .returned (.bool (inB x 0 ((n : Int) - 1))) ∧ w' = w := by
  go_enter Tryz.func67, Tryz.ntmps67
  go_wp2_with fail
  refine (within30 x 0 ((n : Int) - 1) _).mono ?_
  rintro e w1 ⟨rfl, hw⟩
  have hw := hw.symm
  subst hw
  go_wp2_with fail
  go_ret
  exact ⟨rfl, rfl⟩
/-- whether a way is proved -/
def provB (p : Pl) (f : Fm) (k : Int) : Bool := frameB p f && (inB k 0 ((p.ny : Int) - 1) && prvB (p.Y k.toNat) f.O f.P)
theorem frame_in {p : Pl} {f : Fm} (h : frameB p f = true) : p.Ok ∧ f.nh = p.ny ∧ f.np = p.nw ∧ (f.no : Int) = p.sec ∧ ∀ k, k < p.ny → (p.Y k).In f.no f.np := by
  have hz : sizesB p f = true := by
    simp only [frameB, Bool.and_eq_true] at h
    exact h.1
  obtain ⟨hok, _, _, h1, h2, h3⟩ := sizes_ok hz
  refine ⟨hok, h3, h2, h1, fun k hk => ?_⟩
  have h4 := (wayF_in (hok.way k hk)).2
  have e1 : p.sec.toNat = f.no := by omega
  rw [e1, ← h2] at h4
  exact h4
theorem inB_nat {k : Int} {n : Nat} (h : inB k 0 ((n : Int) - 1) = true) : ∃ i : Nat, k = (i : Int) ∧ i < n := by
  simp only [inB, Bool.and_eq_true, decide_eq_true_eq] at h
  exact ⟨k.toNat, by omega, by omega⟩
set_option maxRecDepth 100000 in
set_option maxHeartbeats 8000000 in
theorem prov22 (p : Pl) (f : Fm) (wa ya ba : Option Addr) (wc yc bc : Nat) (ob oo pb po : Nat) (ha : Option Addr) (oc pc hc : Nat) (k : Int) (w : World) (hs : p.small) (hfs : f.small) (h : PlIn 0 w p wa ya ba) (hf : FmIn 0 w f (some ⟨ob, oo, none⟩) (some ⟨pb, po, none⟩) ha) :
    Calls Tryz.prog 22 #[.agg #[.int .i64 p.sec, .slice wa p.nw wc, .slice ya p.ny yc, .slice ba p.nb bc, .int .i64 p.hold], .agg #[.bool f.ok, .slice (some ⟨ob, oo, none⟩) f.no oc, .slice (some ⟨pb, po, none⟩) f.np pc, .slice ha f.nh hc], .int .i64 k] w fun e w' => e = .returned (.bool (provB p f k)) ∧ Below w.heap.size w w' := by
  have H : Hid (PlIn 0 w p wa ya ba ∧ FmIn 0 w f (some ⟨ob, oo, none⟩) (some ⟨pb, po, none⟩) ha ∧ p.small ∧ f.small) := ⟨h, hf, hs, hfs⟩
  have S0 : Hid (Below w.heap.size w ((w.alloc (.cells #[.int .i64 p.sec, .slice wa p.nw wc, .slice ya p.ny yc, .slice ba p.nb bc, .int .i64 p.hold] 37)).alloc (.cells #[.bool f.ok, .slice (some ⟨ob, oo, none⟩) f.no oc, .slice (some ⟨pb, po, none⟩) f.np pc, .slice ha f.nh hc] 42)) ∧ Box ((w.alloc (.cells #[.int .i64 p.sec, .slice wa p.nw wc, .slice ya p.ny yc, .slice ba p.nb bc, .int .i64 p.hold] 37)).alloc (.cells #[.bool f.ok, .slice (some ⟨ob, oo, none⟩) f.no oc, .slice (some ⟨pb, po, none⟩) f.np pc, .slice ha f.nh hc] 42)) w.heap.size 37 #[.int .i64 p.sec, .slice wa p.nw wc, .slice ya p.ny yc, .slice ba p.nb bc, .int .i64 p.hold] ∧ Box ((w.alloc (.cells #[.int .i64 p.sec, .slice wa p.nw wc, .slice ya p.ny yc, .slice ba p.nb bc, .int .i64 p.hold] 37)).alloc (.cells #[.bool f.ok, .slice (some ⟨ob, oo, none⟩) f.no oc, .slice (some ⟨pb, po, none⟩) f.np pc, .slice ha f.nh hc] 42)) (w.heap.size + 1) 42 #[.bool f.ok, .slice (some ⟨ob, oo, none⟩) f.no oc, .slice (some ⟨pb, po, none⟩) f.np pc, .slice ha f.nh hc]) := ⟨bel2 _ _ _, (Box.new _ _ _).alloc _, by have := Box.new (w.alloc (.cells #[.int .i64 p.sec, .slice wa p.nw wc, .slice ya p.ny yc, .slice ba p.nb bc, .int .i64 p.hold] 37)) 42 #[.bool f.ok, .slice (some ⟨ob, oo, none⟩) f.no oc, .slice (some ⟨pb, po, none⟩) f.np pc, .slice ha f.nh hc]; simpa using this⟩
  have hny : p.ny ≤ 1048576 := hs.2.1
  clear h hf hs hfs
  go_enter Tryz.func22, Tryz.ntmps22
  go_wp2_with fail
  generalize ((w.alloc (.cells #[.int .i64 p.sec, .slice wa p.nw wc, .slice ya p.ny yc, .slice ba p.nb bc, .int .i64 p.hold] 37)).alloc (.cells #[.bool f.ok, .slice (some ⟨ob, oo, none⟩) f.no oc, .slice (some ⟨pb, po, none⟩) f.np pc, .slice ha f.nh hc] 42)) = V0 at S0 ⊢
  refine (frame8 p f wa ya ba wc yc bc ob oo pb po ha oc pc hc V0 H.out.2.2.1 H.out.2.2.2 (H.out.1.mono (Nat.le_refl _) S0.out.1 (Nat.le_refl _)) (H.out.2.1.mono (Nat.le_refl _) S0.out.1 (Nat.le_refl _))).mono ?_
  rintro e w1 ⟨he, hb1⟩
  have S1 : Hid (Below w.heap.size w w1 ∧ Box w1 w.heap.size 37 #[.int .i64 p.sec, .slice wa p.nw wc, .slice ya p.ny yc, .slice ba p.nb bc, .int .i64 p.hold] ∧ Box w1 (w.heap.size + 1) 42 #[.bool f.ok, .slice (some ⟨ob, oo, none⟩) f.no oc, .slice (some ⟨pb, po, none⟩) f.np pc, .slice ha f.nh hc]) := ⟨S0.out.1.trans (hb1.mono S0.out.1.size), S0.out.2.1.mono hb1 (Nat.le_refl _), S0.out.2.2.mono hb1 (Nat.le_refl _)⟩
  clear hb1 S0
  obtain ⟨g, HG⟩ : ∃ g, Hid (frameB p f = g) := ⟨_, rfl⟩
  rw [HG.out] at he
  subst he
  cases g with
  | false =>
    go_wp2_with fail
    go_ret
    exact ⟨by rw [provB, HG.out]; rfl, S1.out.1⟩
  | true =>
    have HI := frame_in HG.out
    have HIN : Hid (∀ k, k < p.ny → (p.Y k).In f.no f.np) := HI.2.2.2.2
    clear HI
    have a2 : w1.cell? ⟨w.heap.size, 2, none⟩ = some (.slice ya p.ny yc) := S1.out.2.1.cell 2
    go_wp2_with fail
    clear a2
    refine (in24 k 0 ((p.ny : Int) - 1) _).mono ?_
    rintro e w2 ⟨he, hw⟩
    have hw := hw.symm
    subst hw
    obtain ⟨q, HQ⟩ : ∃ q, Hid (inB k 0 ((p.ny : Int) - 1) = q) := ⟨_, rfl⟩
    rw [HQ.out] at he
    subst he
    cases q with
    | false =>
      go_wp2_with fail
      go_ret
      exact ⟨by rw [provB, HG.out, HQ.out]; rfl, S1.out.1⟩
    | true =>
      obtain ⟨i, rfl, hlt⟩ := inB_nat HQ.out
      have a0 : w1.cell? ⟨w.heap.size, 0, none⟩ = some (.int .i64 p.sec) := S1.out.2.1.cell 0
      have a1 : w1.cell? ⟨w.heap.size, 1, none⟩ = some (.slice wa p.nw wc) := S1.out.2.1.cell 1
      have a2 : w1.cell? ⟨w.heap.size, 2, none⟩ = some (.slice ya p.ny yc) := S1.out.2.1.cell 2
      have a3 : w1.cell? ⟨w.heap.size, 3, none⟩ = some (.slice ba p.nb bc) := S1.out.2.1.cell 3
      have a4 : w1.cell? ⟨w.heap.size, 4, none⟩ = some (.int .i64 p.hold) := S1.out.2.1.cell 4
      have b0 : w1.cell? ⟨(w.heap.size + 1), 0, none⟩ = some (.bool f.ok) := S1.out.2.2.cell 0
      have b1 : w1.cell? ⟨(w.heap.size + 1), 1, none⟩ = some (.slice (some ⟨ob, oo, none⟩) f.no oc) := S1.out.2.2.cell 1
      have b2 : w1.cell? ⟨(w.heap.size + 1), 2, none⟩ = some (.slice (some ⟨pb, po, none⟩) f.np pc) := S1.out.2.2.cell 2
      have b3 : w1.cell? ⟨(w.heap.size + 1), 3, none⟩ = some (.slice ha f.nh hc) := S1.out.2.2.cell 3
      go_wp2_with fail
      clear a0 a1 a2 a3 a4 b0 b1 b2 b3
      refine (proved67 p f wa ya ba (some ⟨ob, oo, none⟩) (some ⟨pb, po, none⟩) ha wc yc bc oc pc hc i w1 H.out.2.2.1 H.out.2.2.2.1 H.out.2.2.2.2.1 hlt (HIN.out i hlt) (H.out.1.mono (Nat.le_refl _) S1.out.1 (Nat.le_refl _)) (H.out.2.1.o.mono (Nat.le_refl _) S1.out.1 (Nat.le_refl _)) (H.out.2.1.p.mono (Nat.le_refl _) S1.out.1 (Nat.le_refl _))).mono ?_
      rintro e w3 ⟨he, hb3⟩
      have HB : Hid (Below w.heap.size w w3) := S1.out.1.trans (hb3.mono S1.out.1.size)
      clear hb3
      have he2 : e = .returned (.bool (provB p f (i : Int))) := by rw [he, provB, HG.out, HQ.out]; rfl
      clear he
      subst he2
      go_wp2_with fail
      go_ret
      exact ⟨rfl, HB.out⟩
set_option maxRecDepth 100000 in
set_option maxHeartbeats 8000000 in
theorem prov23 (p : Pl) (f : Fm) (wb yb bb : Nat) (lo rr : Nat → Nat) (ob pb hb : Nat) (r : Nat → Nat) (et : TypeId) (ev : Value) (k : Int) (w : World) (hs : p.small) (hfs : f.small) (hP : PlOwn 0 w p wb yb bb lo rr) (hF : FmOwn 0 w f (.slice (some ⟨ob, 0, none⟩) f.no f.no) (.slice (some ⟨pb, 0, none⟩) f.np f.np) (.slice (some ⟨hb, 0, none⟩) f.nh f.nh) r) (he : w.cell? ⟨0, 0, none⟩ = some (.iface et ev)) (h0 : 0 < w.heap.size) :
    Calls Tryz.prog 23 #[.agg #[.int .i64 p.sec, .slice (some ⟨wb, 0, none⟩) p.nw p.nw, .slice (some ⟨yb, 0, none⟩) p.ny p.ny, .slice (some ⟨bb, 0, none⟩) p.nb p.nb, .int .i64 p.hold], .agg #[.bool f.ok, .slice (some ⟨ob, 0, none⟩) f.no f.no, .slice (some ⟨pb, 0, none⟩) f.np f.np, .slice (some ⟨hb, 0, none⟩) f.nh f.nh], .int .i64 k] w fun e w' => e = .returned (.bool (provB p f k)) ∧ Below w.heap.size w w' := by
  have H : Hid (PlOwn 0 w p wb yb bb lo rr ∧ FmOwn 0 w f (.slice (some ⟨ob, 0, none⟩) f.no f.no) (.slice (some ⟨pb, 0, none⟩) f.np f.np) (.slice (some ⟨hb, 0, none⟩) f.nh f.nh) r ∧ w.cell? ⟨0, 0, none⟩ = some (.iface et ev) ∧ 0 < w.heap.size ∧ p.small ∧ f.small) := ⟨hP, hF, he, h0, hs, hfs⟩
  have S0 : Hid (Below w.heap.size w ((w.alloc (.cells #[.int .i64 p.sec, .slice (some ⟨wb, 0, none⟩) p.nw p.nw, .slice (some ⟨yb, 0, none⟩) p.ny p.ny, .slice (some ⟨bb, 0, none⟩) p.nb p.nb, .int .i64 p.hold] 37)).alloc (.cells #[.bool f.ok, .slice (some ⟨ob, 0, none⟩) f.no f.no, .slice (some ⟨pb, 0, none⟩) f.np f.np, .slice (some ⟨hb, 0, none⟩) f.nh f.nh] 42)) ∧ Box ((w.alloc (.cells #[.int .i64 p.sec, .slice (some ⟨wb, 0, none⟩) p.nw p.nw, .slice (some ⟨yb, 0, none⟩) p.ny p.ny, .slice (some ⟨bb, 0, none⟩) p.nb p.nb, .int .i64 p.hold] 37)).alloc (.cells #[.bool f.ok, .slice (some ⟨ob, 0, none⟩) f.no f.no, .slice (some ⟨pb, 0, none⟩) f.np f.np, .slice (some ⟨hb, 0, none⟩) f.nh f.nh] 42)) w.heap.size 37 #[.int .i64 p.sec, .slice (some ⟨wb, 0, none⟩) p.nw p.nw, .slice (some ⟨yb, 0, none⟩) p.ny p.ny, .slice (some ⟨bb, 0, none⟩) p.nb p.nb, .int .i64 p.hold]) := ⟨bel2 _ _ _, (Box.new _ _ _).alloc _⟩
  have hny : p.ny ≤ 1048576 := hs.2.1
  clear hP hF he h0 hs hfs
  go_enter Tryz.func23, Tryz.ntmps23
  go_wp2_with fail
  generalize ((w.alloc (.cells #[.int .i64 p.sec, .slice (some ⟨wb, 0, none⟩) p.nw p.nw, .slice (some ⟨yb, 0, none⟩) p.ny p.ny, .slice (some ⟨bb, 0, none⟩) p.nb p.nb, .int .i64 p.hold] 37)).alloc (.cells #[.bool f.ok, .slice (some ⟨ob, 0, none⟩) f.no f.no, .slice (some ⟨pb, 0, none⟩) f.np f.np, .slice (some ⟨hb, 0, none⟩) f.nh f.nh] 42)) = V0 at S0 ⊢
  refine (desk42 p f wb yb bb lo rr ob pb hb r et ev V0 H.out.2.2.2.2.1 H.out.2.2.2.2.2 (H.out.1.mono (Nat.le_refl _) S0.out.1 (Nat.le_refl _)) (H.out.2.1.mono (Nat.le_refl _) S0.out.1 (Nat.le_refl _)) (cell_keep S0.out.1 H.out.2.2.2.1 H.out.2.2.1) (Nat.lt_of_lt_of_le H.out.2.2.2.1 S0.out.1.size)).mono ?_
  rintro e w1 ⟨hb1, hc⟩
  have HB : Hid (Below w.heap.size w w1 ∧ Box w1 w.heap.size 37 #[.int .i64 p.sec, .slice (some ⟨wb, 0, none⟩) p.nw p.nw, .slice (some ⟨yb, 0, none⟩) p.ny p.ny, .slice (some ⟨bb, 0, none⟩) p.nb p.nb, .int .i64 p.hold]) := ⟨S0.out.1.trans (hb1.mono S0.out.1.size), S0.out.2.mono hb1 (Nat.le_refl _)⟩
  clear hb1 S0
  rcases hc with ⟨hf, rfl⟩ | ⟨hf, ia, ic, v, rfl, _⟩
  · have HX : Hid (frameB p f = false) := hf
    clear hf
    go_wp2_with fail
    go_ret
    exact ⟨by rw [provB, HX.out]; rfl, HB.out.1.alloc HB.out.1.size _⟩
  · have HX : Hid (frameB p f = true) := hf
    clear hf
    have HI := frame_in HX.out
    have HIN : Hid (∀ k, k < p.ny → (p.Y k).In f.no f.np) := HI.2.2.2.2
    rw [HI.2.1]
    clear HI
    have T : Hid (Below w.heap.size w (w1.alloc (.cells #[.int .i64 p.sec, .slice (some ⟨wb, 0, none⟩) p.nw p.nw, .slice (some ⟨yb, 0, none⟩) p.ny p.ny, .slice (some ⟨bb, 0, none⟩) p.nb p.nb, .int .i64 p.hold, .slice (some ⟨ob, 0, none⟩) f.no f.no, .slice (some ⟨pb, 0, none⟩) f.np f.np, .slice ia p.ny ic] 84)) ∧ Box (w1.alloc (.cells #[.int .i64 p.sec, .slice (some ⟨wb, 0, none⟩) p.nw p.nw, .slice (some ⟨yb, 0, none⟩) p.ny p.ny, .slice (some ⟨bb, 0, none⟩) p.nb p.nb, .int .i64 p.hold, .slice (some ⟨ob, 0, none⟩) f.no f.no, .slice (some ⟨pb, 0, none⟩) f.np f.np, .slice ia p.ny ic] 84)) w.heap.size 37 #[.int .i64 p.sec, .slice (some ⟨wb, 0, none⟩) p.nw p.nw, .slice (some ⟨yb, 0, none⟩) p.ny p.ny, .slice (some ⟨bb, 0, none⟩) p.nb p.nb, .int .i64 p.hold] ∧ Box (w1.alloc (.cells #[.int .i64 p.sec, .slice (some ⟨wb, 0, none⟩) p.nw p.nw, .slice (some ⟨yb, 0, none⟩) p.ny p.ny, .slice (some ⟨bb, 0, none⟩) p.nb p.nb, .int .i64 p.hold, .slice (some ⟨ob, 0, none⟩) f.no f.no, .slice (some ⟨pb, 0, none⟩) f.np f.np, .slice ia p.ny ic] 84)) w1.heap.size 84 #[.int .i64 p.sec, .slice (some ⟨wb, 0, none⟩) p.nw p.nw, .slice (some ⟨yb, 0, none⟩) p.ny p.ny, .slice (some ⟨bb, 0, none⟩) p.nb p.nb, .int .i64 p.hold, .slice (some ⟨ob, 0, none⟩) f.no f.no, .slice (some ⟨pb, 0, none⟩) f.np f.np, .slice ia p.ny ic]) := ⟨HB.out.1.alloc HB.out.1.size _, HB.out.2.alloc _, Box.new _ _ _⟩
    have a2 : (w1.alloc (.cells #[.int .i64 p.sec, .slice (some ⟨wb, 0, none⟩) p.nw p.nw, .slice (some ⟨yb, 0, none⟩) p.ny p.ny, .slice (some ⟨bb, 0, none⟩) p.nb p.nb, .int .i64 p.hold, .slice (some ⟨ob, 0, none⟩) f.no f.no, .slice (some ⟨pb, 0, none⟩) f.np f.np, .slice ia p.ny ic] 84)).cell? ⟨w.heap.size, 2, none⟩ = some (.slice (some ⟨yb, 0, none⟩) p.ny p.ny) := T.out.2.1.cell 2
    go_wp2_with fail
    clear a2
    generalize w1.alloc (.cells #[.int .i64 p.sec, .slice (some ⟨wb, 0, none⟩) p.nw p.nw, .slice (some ⟨yb, 0, none⟩) p.ny p.ny, .slice (some ⟨bb, 0, none⟩) p.nb p.nb, .int .i64 p.hold, .slice (some ⟨ob, 0, none⟩) f.no f.no, .slice (some ⟨pb, 0, none⟩) f.np f.np, .slice ia p.ny ic] 84) = V1 at T ⊢
    generalize w1.heap.size = dq at T ⊢
    refine (placeW _ p.ny p.ny k V1 hny).mono ?_
    rintro e w2 ⟨he, hw⟩
    have hw := hw.symm
    subst hw
    obtain ⟨q, HQ⟩ : ∃ q, Hid (inB k 0 ((p.ny : Int) - 1) = q) := ⟨_, rfl⟩
    rw [HQ.out] at he
    subst he
    cases q with
    | false =>
      go_wp2_with fail
      go_ret
      exact ⟨by rw [provB, HX.out, HQ.out]; rfl, T.out.1⟩
    | true =>
      obtain ⟨i, rfl, hlt⟩ := inB_nat HQ.out
      have d0 : V1.cell? ⟨dq, 0, none⟩ = some (.int .i64 p.sec) := T.out.2.2.cell 0
      have d1 : V1.cell? ⟨dq, 1, none⟩ = some (.slice (some ⟨wb, 0, none⟩) p.nw p.nw) := T.out.2.2.cell 1
      have d2 : V1.cell? ⟨dq, 2, none⟩ = some (.slice (some ⟨yb, 0, none⟩) p.ny p.ny) := T.out.2.2.cell 2
      have d3 : V1.cell? ⟨dq, 3, none⟩ = some (.slice (some ⟨bb, 0, none⟩) p.nb p.nb) := T.out.2.2.cell 3
      have d4 : V1.cell? ⟨dq, 4, none⟩ = some (.int .i64 p.hold) := T.out.2.2.cell 4
      have d5 : V1.cell? ⟨dq, 5, none⟩ = some (.slice (some ⟨ob, 0, none⟩) f.no f.no) := T.out.2.2.cell 5
      have d6 : V1.cell? ⟨dq, 6, none⟩ = some (.slice (some ⟨pb, 0, none⟩) f.np f.np) := T.out.2.2.cell 6
      have d7 : V1.cell? ⟨dq, 7, none⟩ = some (.slice ia p.ny ic) := T.out.2.2.cell 7
      go_wp2_with fail
      clear d0 d1 d2 d3 d4 d5 d6 d7
      have FI := (H.out.2.1.mono (Nat.le_refl _) T.out.1 (Nat.le_refl _)).in (Nat.le_refl 0)
      refine (view69 p wb yb bb lo rr (some ⟨ob, 0, none⟩) f.no f.no (some ⟨pb, 0, none⟩) f.np f.np ia ic f.O f.P i V1 hlt H.out.2.2.2.2.1 (H.out.1.mono (Nat.le_refl _) T.out.1 (Nat.le_refl _)) FI.o FI.p (HIN.out i hlt) H.out.2.2.2.2.2.1 H.out.2.2.2.2.2.2.1).mono ?_
      clear FI
      rintro e w3 ⟨b1, b2, b3, b4, b5, rfl, hvw, hb3⟩
      have HV : Hid (VwIn w3 (p.Y i) b1 b2 b3 b4 b5 (some ⟨ob, 0, none⟩) f.no f.O (some ⟨pb, 0, none⟩) f.np f.P ∧ Below w.heap.size w w3) := ⟨hvw, T.out.1.trans (hb3.mono T.out.1.size)⟩
      clear hvw hb3
      go_wp2_with fail
      refine (proved70 (p.Y i) b1 b2 b3 b4 b5 (some ⟨ob, 0, none⟩) f.no f.no f.O (some ⟨pb, 0, none⟩) f.np f.np f.P w3 HV.out.1).mono ?_
      rintro e w4 ⟨he, hb4⟩
      have HB4 : Hid (Below w.heap.size w w4) := HV.out.2.trans (hb4.mono HV.out.2.size)
      clear hb4
      have he2 : e = .returned (.bool (provB p f (i : Int))) := by rw [he, provB, HX.out, HQ.out]; rfl
      clear he
      subst he2
      go_wp2_with fail
      go_ret
      exact ⟨rfl, HB4.out⟩

end Go.Proofs.YtkeilejbelblcaaGreatDoor
