import Derived.Test.YtkeilejbelblcaaGreatDoorP1
import Derived.Test.YtkeilejbelblcaaGreatDoorGK18K19
import Derived.Test.YtkeilejbelblcaaGreatDoorK22
import Derived.Test.YtkeilejbelblcaaGreatDoorH15
import Derived.Test.YtkeilejbelblcaaGreatDoorEq
import Derived.Test.YtkeilejbelblcaaGreatDoorTp
namespace Go.Proofs.YtkeilejbelblcaaGreatDoor
open Go.RowKit Go.Lib

set_option maxRecDepth 100000 in
set_option maxHeartbeats 16000000 in
theorem law5 (p : Pl) (f : Fm) (wa ya ba : Option Addr) (wc yc bc : Nat) (oa pa ha : Option Addr) (oc pc hc : Nat) (et : TypeId) (ev : Value) (kk : Int) (w : World) (hpf : p.fits) (hff : f.fits) (hP : PlIn 0 w p wa ya ba) (hF : FmIn 0 w f oa pa ha) (he : w.cell? ⟨0, 0, none⟩ = some (.iface et ev)) (h0 : 0 < w.heap.size) :
    Calls Tryz.prog 5 #[.agg #[.int .i64 p.sec, .slice wa p.nw wc, .slice ya p.ny yc, .slice ba p.nb bc, .int .i64 p.hold], .agg #[.bool f.ok, .slice oa f.no oc, .slice pa f.np pc, .slice ha f.nh hc], .int .i64 kk] w fun e w' => e = .returned (.bool true) ∧ Below w.heap.size w w' := by
  have H : Hid (PlIn 0 w p wa ya ba ∧ FmIn 0 w f oa pa ha ∧ w.cell? ⟨0, 0, none⟩ = some (.iface et ev) ∧ 0 < w.heap.size) := ⟨hP, hF, he, h0⟩
  have S0 : Hid (Below w.heap.size w ((w.alloc (.cells #[.int .i64 p.sec, .slice wa p.nw wc, .slice ya p.ny yc, .slice ba p.nb bc, .int .i64 p.hold] 26)).alloc (.cells #[.bool f.ok, .slice oa f.no oc, .slice pa f.np pc, .slice ha f.nh hc] 31)) ∧ Box ((w.alloc (.cells #[.int .i64 p.sec, .slice wa p.nw wc, .slice ya p.ny yc, .slice ba p.nb bc, .int .i64 p.hold] 26)).alloc (.cells #[.bool f.ok, .slice oa f.no oc, .slice pa f.np pc, .slice ha f.nh hc] 31)) w.heap.size 26 #[.int .i64 p.sec, .slice wa p.nw wc, .slice ya p.ny yc, .slice ba p.nb bc, .int .i64 p.hold] ∧ Box ((w.alloc (.cells #[.int .i64 p.sec, .slice wa p.nw wc, .slice ya p.ny yc, .slice ba p.nb bc, .int .i64 p.hold] 26)).alloc (.cells #[.bool f.ok, .slice oa f.no oc, .slice pa f.np pc, .slice ha f.nh hc] 31)) (w.heap.size + 1) 31 #[.bool f.ok, .slice oa f.no oc, .slice pa f.np pc, .slice ha f.nh hc]) := ⟨bel2 _ _ _, (Box.new _ _ _).alloc _, by have := Box.new (w.alloc (.cells #[.int .i64 p.sec, .slice wa p.nw wc, .slice ya p.ny yc, .slice ba p.nb bc, .int .i64 p.hold] 26)) 31 #[.bool f.ok, .slice oa f.no oc, .slice pa f.np pc, .slice ha f.nh hc]; simpa using this⟩
  clear hP hF he h0
  go_enter Tryz.func5, Tryz.ntmps5
  go_wp2_with fail
  generalize ((w.alloc (.cells #[.int .i64 p.sec, .slice wa p.nw wc, .slice ya p.ny yc, .slice ba p.nb bc, .int .i64 p.hold] 26)).alloc (.cells #[.bool f.ok, .slice oa f.no oc, .slice pa f.np pc, .slice ha f.nh hc] 31)) = V0 at S0 ⊢
  refine (szPlan p wa ya ba wc yc bc 1048576 _ hpf (by omega) (by omega) (H.out.1.mono (Nat.le_refl _) S0.out.1 (Nat.le_refl _))).mono ?_
  rintro e w1 ⟨r, rfl, hr1, hr2, hb1⟩
  have S1 : Hid (Below w.heap.size w w1 ∧ Box w1 w.heap.size 26 #[.int .i64 p.sec, .slice wa p.nw wc, .slice ya p.ny yc, .slice ba p.nb bc, .int .i64 p.hold] ∧ Box w1 (w.heap.size + 1) 31 #[.bool f.ok, .slice oa f.no oc, .slice pa f.np pc, .slice ha f.nh hc]) := ⟨S0.out.1.trans (hb1.mono S0.out.1.size), S0.out.2.1.mono hb1 (Nat.le_refl _), S0.out.2.2.mono hb1 (Nat.le_refl _)⟩
  clear hb1 S0
  by_cases hneg : r < 0
  · clear hr2
    go_wp2_with fail
    go_ret
    exact ⟨rfl, S1.out.1⟩
  have HS : Hid p.small := hr2 (by omega)
  clear hr2
  have b0 : w1.cell? ⟨(w.heap.size + 1), 0, none⟩ = some (.bool f.ok) := S1.out.2.2.cell 0
  have b1 : w1.cell? ⟨(w.heap.size + 1), 1, none⟩ = some (.slice oa f.no oc) := S1.out.2.2.cell 1
  have b2 : w1.cell? ⟨(w.heap.size + 1), 2, none⟩ = some (.slice pa f.np pc) := S1.out.2.2.cell 2
  have b3 : w1.cell? ⟨(w.heap.size + 1), 3, none⟩ = some (.slice ha f.nh hc) := S1.out.2.2.cell 3
  go_wp2_with fail
  clear b0 b1 b2 b3
  refine (szFrame f oa pa ha oc pc hc r _ hff (by omega) (by omega) (H.out.2.1.mono (Nat.le_refl _) S1.out.1 (Nat.le_refl _))).mono ?_
  rintro e w2 ⟨r2, rfl, hr3, hr4, hb2⟩
  have S2 : Hid (Below w.heap.size w w2 ∧ Box w2 w.heap.size 26 #[.int .i64 p.sec, .slice wa p.nw wc, .slice ya p.ny yc, .slice ba p.nb bc, .int .i64 p.hold] ∧ Box w2 (w.heap.size + 1) 31 #[.bool f.ok, .slice oa f.no oc, .slice pa f.np pc, .slice ha f.nh hc]) := ⟨S1.out.1.trans (hb2.mono S1.out.1.size), S1.out.2.1.mono hb2 (Nat.le_refl _), S1.out.2.2.mono hb2 (Nat.le_refl _)⟩
  clear hb2 S1
  by_cases hneg2 : r2 < 0
  · clear hr4
    go_wp2_with fail
    go_ret
    exact ⟨rfl, S2.out.1⟩
  have HFS : Hid f.small := hr4 (by omega)
  clear hr4
  have HC : Hid (∀ W, Below w2.heap.size w2 W → Below w.heap.size w W ∧ Box W w.heap.size 26 #[.int .i64 p.sec, .slice wa p.nw wc, .slice ya p.ny yc, .slice ba p.nb bc, .int .i64 p.hold] ∧ Box W (w.heap.size + 1) 31 #[.bool f.ok, .slice oa f.no oc, .slice pa f.np pc, .slice ha f.nh hc]) := fun W hB => ⟨S2.out.1.trans (hB.mono S2.out.1.size), S2.out.2.1.mono hB (Nat.le_refl _), S2.out.2.2.mono hB (Nat.le_refl _)⟩
  have HTP : Hid (∀ W, Below w2.heap.size w2 W → Calls Tryz.prog 9 #[.agg #[.int .i64 p.sec, .slice wa p.nw wc, .slice ya p.ny yc, .slice ba p.nb bc, .int .i64 p.hold]] W fun e w' => ∃ wb yb bb lo r, e = .returned (.agg #[.int .i64 p.sec, .slice (some ⟨wb, 0, none⟩) p.nw p.nw, .slice (some ⟨yb, 0, none⟩) p.ny p.ny, .slice (some ⟨bb, 0, none⟩) p.nb p.nb, .int .i64 p.hold]) ∧ PlOwn W.heap.size w' p wb yb bb lo r ∧ Below W.heap.size W w') := fun W hB => toPlan p wa ya ba wc yc bc W HS.out (H.out.1.mono (Nat.le_refl _) (HC.out W hB).1 (Nat.le_refl _))
  have HTF : Hid (∀ W, Below w2.heap.size w2 W → Calls Tryz.prog 10 #[.agg #[.bool f.ok, .slice oa f.no oc, .slice pa f.np pc, .slice ha f.nh hc]] W fun e w' => TfR W f e w') := fun W hB => toFrame10 f oa pa ha oc pc hc W HFS.out (H.out.2.1.mono (Nat.le_refl _) (HC.out W hB).1 (Nat.le_refl _))
  obtain ⟨g, HG⟩ : ∃ g, Hid (provB p f kk = g) := ⟨_, rfl⟩
  have MD : Hid (Below w2.heap.size w2 w2.drew) := (Below.refl _ _).drew
  have a0 : w2.cell? ⟨w.heap.size, 0, none⟩ = some (.int .i64 p.sec) := S2.out.2.1.cell 0
  have a1 : w2.cell? ⟨w.heap.size, 1, none⟩ = some (.slice wa p.nw wc) := S2.out.2.1.cell 1
  have a2 : w2.cell? ⟨w.heap.size, 2, none⟩ = some (.slice ya p.ny yc) := S2.out.2.1.cell 2
  have a3 : w2.cell? ⟨w.heap.size, 3, none⟩ = some (.slice ba p.nb bc) := S2.out.2.1.cell 3
  have a4 : w2.cell? ⟨w.heap.size, 4, none⟩ = some (.int .i64 p.hold) := S2.out.2.1.cell 4
  have b0 : w2.cell? ⟨(w.heap.size + 1), 0, none⟩ = some (.bool f.ok) := S2.out.2.2.cell 0
  have b1 : w2.cell? ⟨(w.heap.size + 1), 1, none⟩ = some (.slice oa f.no oc) := S2.out.2.2.cell 1
  have b2 : w2.cell? ⟨(w.heap.size + 1), 2, none⟩ = some (.slice pa f.np pc) := S2.out.2.2.cell 2
  have b3 : w2.cell? ⟨(w.heap.size + 1), 3, none⟩ = some (.slice ha f.nh hc) := S2.out.2.2.cell 3
  go_wp2_with fail
  refine wp_region_held_drew (S := (fun wx : World => wx.cell? ⟨w.heap.size, 0, none⟩ = some (.int .i64 p.sec) ∧ wx.cell? ⟨w.heap.size, 1, none⟩ = some (.slice wa p.nw wc) ∧ wx.cell? ⟨w.heap.size, 2, none⟩ = some (.slice ya p.ny yc) ∧ wx.cell? ⟨w.heap.size, 3, none⟩ = some (.slice ba p.nb bc) ∧ wx.cell? ⟨w.heap.size, 4, none⟩ = some (.int .i64 p.hold) ∧ wx.cell? ⟨(w.heap.size + 1), 0, none⟩ = some (.bool f.ok) ∧ wx.cell? ⟨(w.heap.size + 1), 1, none⟩ = some (.slice oa f.no oc) ∧ wx.cell? ⟨(w.heap.size + 1), 2, none⟩ = some (.slice pa f.np pc) ∧ wx.cell? ⟨(w.heap.size + 1), 3, none⟩ = some (.slice ha f.nh hc))) (by kernel_rfl) ?_ (fun hHeld => ?_)
  · exact ⟨a0, a1, a2, a3, a4, b0, b1, b2, b3⟩
  refine take_lit (i := 0) (v := ?vr1x0) rfl (by kernel_rfl) (by kernel_rfl) (by kernel_rfl) (fun _ _ _ h => h) (Or.inl ⟨by rfl, ?hyr1x0⟩) (by assumption) ?restr1x0
  case hyr1x0 => (intro wq hSw; (try dsimp only at hSw); go_simp; try with_reducible rfl)
  simp only [Act.put, List.setIfInBounds_toArray, List.set_cons_zero, List.set_cons_succ]
  refine take_lit (i := 2) (v := ?vr1x2) rfl (by kernel_rfl) (by kernel_rfl) (by kernel_rfl) (fun _ _ _ h => h) (Or.inl ⟨by rfl, ?hyr1x2⟩) (by assumption) ?restr1x2
  case hyr1x2 => (intro wq hSw; (try dsimp only at hSw); go_simp; try with_reducible rfl)
  simp only [Act.put, List.setIfInBounds_toArray, List.set_cons_zero, List.set_cons_succ]
  refine take_lit (i := 4) (v := ?vr1x4) rfl (by kernel_rfl) (by kernel_rfl) (by kernel_rfl) (fun _ _ _ h => h) (Or.inl ⟨by rfl, ?hyr1x4⟩) (by assumption) ?restr1x4
  case hyr1x4 => (intro wq hSw; (try dsimp only at hSw); go_simp; try with_reducible rfl)
  simp only [Act.put, List.setIfInBounds_toArray, List.set_cons_zero, List.set_cons_succ]
  refine ready_lit (i := 1) (by kernel_rfl) rfl (fun K hK => ?_)
  go_simp
  refine (HTP.out _ MD.out).mono ?_
  rintro e w3 ⟨wb2, yb2, bb2, lo2, rr2, rfl, ho3, hb3⟩
  have B3 := MD.out.trans (hb3.mono MD.out.size)
  go_wp2_with fail
  refine hK.out _ _ ?_ (fun hHeld1 => ?_)
  · exact ⟨(HC.out w3 B3).2.1.cell 0, (HC.out w3 B3).2.1.cell 1, (HC.out w3 B3).2.1.cell 2, (HC.out w3 B3).2.1.cell 3, (HC.out w3 B3).2.1.cell 4, (HC.out w3 B3).2.2.cell 0, (HC.out w3 B3).2.2.cell 1, (HC.out w3 B3).2.2.cell 2, (HC.out w3 B3).2.2.cell 3⟩
  clear hK K
  refine ready_lit (i := 3) (by kernel_rfl) rfl (fun K hK => ?_)
  go_simp
  refine (HTF.out _ B3).mono ?_
  rintro e w4 ⟨ob2, pb2, hb2, r3, rfl, hf4, hb4⟩
  have B4 := B3.trans (hb4.mono B3.size)
  go_wp2_with fail
  refine hK.out _ _ ?_ (fun hHeld3 => ?_)
  · exact ⟨(HC.out w4 B4).2.1.cell 0, (HC.out w4 B4).2.1.cell 1, (HC.out w4 B4).2.1.cell 2, (HC.out w4 B4).2.1.cell 3, (HC.out w4 B4).2.1.cell 4, (HC.out w4 B4).2.2.cell 0, (HC.out w4 B4).2.2.cell 1, (HC.out w4 B4).2.2.cell 2, (HC.out w4 B4).2.2.cell 3⟩
  clear hK K
  refine ready_lit (i := 5) (by kernel_rfl) rfl (fun K hK => ?_)
  go_simp
  refine (prov22 p f (some ⟨wb2, 0, none⟩) (some ⟨yb2, 0, none⟩) (some ⟨bb2, 0, none⟩) p.nw p.ny p.nb ob2 0 pb2 0 (some ⟨hb2, 0, none⟩) f.no f.np f.nh kk w4 HS.out HFS.out ((ho3.in (Nat.zero_le _)).mono (Nat.le_refl _) hb4 (Nat.le_refl _)) (hf4.in (Nat.zero_le _))).mono ?_
  rintro e w5 ⟨he5, hb5⟩
  rw [HG.out] at he5
  subst he5
  have B5 := B4.trans (hb5.mono B4.size)
  go_wp2_with fail
  refine hK.out _ _ ?_ (fun hHeld5 => ?_)
  · exact ⟨(HC.out w5 B5).2.1.cell 0, (HC.out w5 B5).2.1.cell 1, (HC.out w5 B5).2.1.cell 2, (HC.out w5 B5).2.1.cell 3, (HC.out w5 B5).2.1.cell 4, (HC.out w5 B5).2.2.cell 0, (HC.out w5 B5).2.2.cell 1, (HC.out w5 B5).2.2.cell 2, (HC.out w5 B5).2.2.cell 3⟩
  clear hK K
  refine take_lit (i := 6) (v := ?vr1x6) rfl (by kernel_rfl) (by kernel_rfl) (by kernel_rfl) (fun _ _ _ h => h) (Or.inl ⟨by rfl, ?hyr1x6⟩) (by assumption) ?restr1x6
  case hyr1x6 => (intro wq hSw; (try dsimp only at hSw); go_simp; try with_reducible rfl)
  simp only [Act.put, List.setIfInBounds_toArray, List.set_cons_zero, List.set_cons_succ]
  refine wpAnyH_done (by kernel_rfl) ?_ _
  clear ho3 hb3 hf4 hb4 hb5 B3 B4 a0 a1 a2 a3 a4 b0 b1 b2 b3
  have HB5 : Hid (Below w2.heap.size w2 w5) := B5
  clear B5
  have a0 : w5.cell? ⟨w.heap.size, 0, none⟩ = some (.int .i64 p.sec) := (HC.out w5 HB5.out).2.1.cell 0
  have a1 : w5.cell? ⟨w.heap.size, 1, none⟩ = some (.slice wa p.nw wc) := (HC.out w5 HB5.out).2.1.cell 1
  have a2 : w5.cell? ⟨w.heap.size, 2, none⟩ = some (.slice ya p.ny yc) := (HC.out w5 HB5.out).2.1.cell 2
  have a3 : w5.cell? ⟨w.heap.size, 3, none⟩ = some (.slice ba p.nb bc) := (HC.out w5 HB5.out).2.1.cell 3
  have a4 : w5.cell? ⟨w.heap.size, 4, none⟩ = some (.int .i64 p.hold) := (HC.out w5 HB5.out).2.1.cell 4
  go_wp2_with fail
  clear a0 a1 a2 a3 a4
  refine (HTP.out _ HB5.out).mono ?_
  rintro e w6 ⟨wb5, yb5, bb5, lo5, rr5, rfl, ho6, hb6⟩
  have B6 : Hid (Below w2.heap.size w2 w6 ∧ PlOwn 0 w6 p wb5 yb5 bb5 lo5 rr5) := ⟨HB5.out.trans (hb6.mono HB5.out.size), ho6.keep (Nat.zero_le _) (Nat.le_refl _) fun _ _ => rfl⟩
  clear ho6 hb6 HB5
  have B7 : Hid (Below w2.heap.size w2 (w6.alloc (.cells #[.int .i64 p.sec, .slice (some ⟨wb5, 0, none⟩) p.nw p.nw, .slice (some ⟨yb5, 0, none⟩) p.ny p.ny, .slice (some ⟨bb5, 0, none⟩) p.nb p.nb, .int .i64 p.hold] 37)) ∧ PlOwn 0 (w6.alloc (.cells #[.int .i64 p.sec, .slice (some ⟨wb5, 0, none⟩) p.nw p.nw, .slice (some ⟨yb5, 0, none⟩) p.ny p.ny, .slice (some ⟨bb5, 0, none⟩) p.nb p.nb, .int .i64 p.hold] 37)) p wb5 yb5 bb5 lo5 rr5 ∧ Box (w6.alloc (.cells #[.int .i64 p.sec, .slice (some ⟨wb5, 0, none⟩) p.nw p.nw, .slice (some ⟨yb5, 0, none⟩) p.ny p.ny, .slice (some ⟨bb5, 0, none⟩) p.nb p.nb, .int .i64 p.hold] 37)) w6.heap.size 37 #[.int .i64 p.sec, .slice (some ⟨wb5, 0, none⟩) p.nw p.nw, .slice (some ⟨yb5, 0, none⟩) p.ny p.ny, .slice (some ⟨bb5, 0, none⟩) p.nb p.nb, .int .i64 p.hold]) := ⟨B6.out.1.alloc B6.out.1.size _, B6.out.2.mono (Nat.le_refl _) (bel1 _ _) (Nat.le_refl _), Box.new _ _ _⟩
  have b0 : (w6.alloc (.cells #[.int .i64 p.sec, .slice (some ⟨wb5, 0, none⟩) p.nw p.nw, .slice (some ⟨yb5, 0, none⟩) p.ny p.ny, .slice (some ⟨bb5, 0, none⟩) p.nb p.nb, .int .i64 p.hold] 37)).cell? ⟨(w.heap.size + 1), 0, none⟩ = some (.bool f.ok) := (HC.out _ B7.out.1).2.2.cell 0
  have b1 : (w6.alloc (.cells #[.int .i64 p.sec, .slice (some ⟨wb5, 0, none⟩) p.nw p.nw, .slice (some ⟨yb5, 0, none⟩) p.ny p.ny, .slice (some ⟨bb5, 0, none⟩) p.nb p.nb, .int .i64 p.hold] 37)).cell? ⟨(w.heap.size + 1), 1, none⟩ = some (.slice oa f.no oc) := (HC.out _ B7.out.1).2.2.cell 1
  have b2 : (w6.alloc (.cells #[.int .i64 p.sec, .slice (some ⟨wb5, 0, none⟩) p.nw p.nw, .slice (some ⟨yb5, 0, none⟩) p.ny p.ny, .slice (some ⟨bb5, 0, none⟩) p.nb p.nb, .int .i64 p.hold] 37)).cell? ⟨(w.heap.size + 1), 2, none⟩ = some (.slice pa f.np pc) := (HC.out _ B7.out.1).2.2.cell 2
  have b3 : (w6.alloc (.cells #[.int .i64 p.sec, .slice (some ⟨wb5, 0, none⟩) p.nw p.nw, .slice (some ⟨yb5, 0, none⟩) p.ny p.ny, .slice (some ⟨bb5, 0, none⟩) p.nb p.nb, .int .i64 p.hold] 37)).cell? ⟨(w.heap.size + 1), 3, none⟩ = some (.slice ha f.nh hc) := (HC.out _ B7.out.1).2.2.cell 3
  go_wp2_with fail
  clear b0 b1 b2 b3
  generalize w6.alloc (.cells #[.int .i64 p.sec, .slice (some ⟨wb5, 0, none⟩) p.nw p.nw, .slice (some ⟨yb5, 0, none⟩) p.ny p.ny, .slice (some ⟨bb5, 0, none⟩) p.nb p.nb, .int .i64 p.hold] 37) = V7 at B7 ⊢
  generalize w6.heap.size = xq at B7 ⊢
  refine (HTF.out _ B7.out.1).mono ?_
  rintro e w8 ⟨ob5, pb5, hb5, r5, rfl, hf8, hb8⟩
  have B8 : Hid (Below w2.heap.size w2 (w8.alloc (.cells #[.bool f.ok, .slice (some ⟨ob5, 0, none⟩) f.no f.no, .slice (some ⟨pb5, 0, none⟩) f.np f.np, .slice (some ⟨hb5, 0, none⟩) f.nh f.nh] 42)) ∧ PlOwn 0 (w8.alloc (.cells #[.bool f.ok, .slice (some ⟨ob5, 0, none⟩) f.no f.no, .slice (some ⟨pb5, 0, none⟩) f.np f.np, .slice (some ⟨hb5, 0, none⟩) f.nh f.nh] 42)) p wb5 yb5 bb5 lo5 rr5 ∧ Box (w8.alloc (.cells #[.bool f.ok, .slice (some ⟨ob5, 0, none⟩) f.no f.no, .slice (some ⟨pb5, 0, none⟩) f.np f.np, .slice (some ⟨hb5, 0, none⟩) f.nh f.nh] 42)) xq 37 #[.int .i64 p.sec, .slice (some ⟨wb5, 0, none⟩) p.nw p.nw, .slice (some ⟨yb5, 0, none⟩) p.ny p.ny, .slice (some ⟨bb5, 0, none⟩) p.nb p.nb, .int .i64 p.hold] ∧ FmOwn 0 (w8.alloc (.cells #[.bool f.ok, .slice (some ⟨ob5, 0, none⟩) f.no f.no, .slice (some ⟨pb5, 0, none⟩) f.np f.np, .slice (some ⟨hb5, 0, none⟩) f.nh f.nh] 42)) f (.slice (some ⟨ob5, 0, none⟩) f.no f.no) (.slice (some ⟨pb5, 0, none⟩) f.np f.np) (.slice (some ⟨hb5, 0, none⟩) f.nh f.nh) r5 ∧ Box (w8.alloc (.cells #[.bool f.ok, .slice (some ⟨ob5, 0, none⟩) f.no f.no, .slice (some ⟨pb5, 0, none⟩) f.np f.np, .slice (some ⟨hb5, 0, none⟩) f.nh f.nh] 42)) w8.heap.size 42 #[.bool f.ok, .slice (some ⟨ob5, 0, none⟩) f.no f.no, .slice (some ⟨pb5, 0, none⟩) f.np f.np, .slice (some ⟨hb5, 0, none⟩) f.nh f.nh]) := by
    have q := B7.out.1.trans (hb8.mono B7.out.1.size)
    exact ⟨q.alloc q.size _, (B7.out.2.1.mono (Nat.le_refl _) hb8 (Nat.le_refl _)).mono (Nat.le_refl _) (bel1 _ _) (Nat.le_refl _), (B7.out.2.2.mono hb8 (Nat.le_refl _)).alloc _, hf8.mono (Nat.zero_le _) (bel1 _ _) (Nat.le_refl _), Box.new _ _ _⟩
  clear hf8 hb8 B7
  have x0 : (w8.alloc (.cells #[.bool f.ok, .slice (some ⟨ob5, 0, none⟩) f.no f.no, .slice (some ⟨pb5, 0, none⟩) f.np f.np, .slice (some ⟨hb5, 0, none⟩) f.nh f.nh] 42)).cell? ⟨xq, 0, none⟩ = some (.int .i64 p.sec) := B8.out.2.2.1.cell 0
  have x1 : (w8.alloc (.cells #[.bool f.ok, .slice (some ⟨ob5, 0, none⟩) f.no f.no, .slice (some ⟨pb5, 0, none⟩) f.np f.np, .slice (some ⟨hb5, 0, none⟩) f.nh f.nh] 42)).cell? ⟨xq, 1, none⟩ = some (.slice (some ⟨wb5, 0, none⟩) p.nw p.nw) := B8.out.2.2.1.cell 1
  have x2 : (w8.alloc (.cells #[.bool f.ok, .slice (some ⟨ob5, 0, none⟩) f.no f.no, .slice (some ⟨pb5, 0, none⟩) f.np f.np, .slice (some ⟨hb5, 0, none⟩) f.nh f.nh] 42)).cell? ⟨xq, 2, none⟩ = some (.slice (some ⟨yb5, 0, none⟩) p.ny p.ny) := B8.out.2.2.1.cell 2
  have x3 : (w8.alloc (.cells #[.bool f.ok, .slice (some ⟨ob5, 0, none⟩) f.no f.no, .slice (some ⟨pb5, 0, none⟩) f.np f.np, .slice (some ⟨hb5, 0, none⟩) f.nh f.nh] 42)).cell? ⟨xq, 3, none⟩ = some (.slice (some ⟨bb5, 0, none⟩) p.nb p.nb) := B8.out.2.2.1.cell 3
  have x4 : (w8.alloc (.cells #[.bool f.ok, .slice (some ⟨ob5, 0, none⟩) f.no f.no, .slice (some ⟨pb5, 0, none⟩) f.np f.np, .slice (some ⟨hb5, 0, none⟩) f.nh f.nh] 42)).cell? ⟨xq, 4, none⟩ = some (.int .i64 p.hold) := B8.out.2.2.1.cell 4
  go_wp2_with fail
  clear x0 x1 x2 x3 x4
  generalize w8.alloc (.cells #[.bool f.ok, .slice (some ⟨ob5, 0, none⟩) f.no f.no, .slice (some ⟨pb5, 0, none⟩) f.np f.np, .slice (some ⟨hb5, 0, none⟩) f.nh f.nh] 42) = V9 at B8 ⊢
  generalize w8.heap.size = yq at B8 ⊢
  have HV9 := (HC.out V9 B8.out.1).1
  refine (prov23 p f wb5 yb5 bb5 lo5 rr5 ob5 pb5 hb5 r5 et ev kk V9 HS.out HFS.out B8.out.2.1 B8.out.2.2.2.1 (cell_keep HV9 H.out.2.2.2 H.out.2.2.1) (Nat.lt_of_lt_of_le H.out.2.2.2 HV9.size)).mono ?_
  rintro e w10 ⟨he10, hb10⟩
  rw [HG.out] at he10
  subst he10
  have T : Hid (∀ W, Below w10.heap.size w10 W → Below w2.heap.size w2 W ∧ PlOwn 0 W p wb5 yb5 bb5 lo5 rr5 ∧ Box W xq 37 #[.int .i64 p.sec, .slice (some ⟨wb5, 0, none⟩) p.nw p.nw, .slice (some ⟨yb5, 0, none⟩) p.ny p.ny, .slice (some ⟨bb5, 0, none⟩) p.nb p.nb, .int .i64 p.hold] ∧ FmOwn 0 W f (.slice (some ⟨ob5, 0, none⟩) f.no f.no) (.slice (some ⟨pb5, 0, none⟩) f.np f.np) (.slice (some ⟨hb5, 0, none⟩) f.nh f.nh) r5 ∧ Box W yq 42 #[.bool f.ok, .slice (some ⟨ob5, 0, none⟩) f.no f.no, .slice (some ⟨pb5, 0, none⟩) f.np f.np, .slice (some ⟨hb5, 0, none⟩) f.nh f.nh]) := fun W hB => by
    have q : Below V9.heap.size V9 W := hb10.trans (hB.mono hb10.size)
    exact ⟨B8.out.1.trans (q.mono B8.out.1.size), B8.out.2.1.mono (Nat.le_refl _) q (Nat.le_refl _), B8.out.2.2.1.mono q (Nat.le_refl _), B8.out.2.2.2.1.mono (Nat.le_refl _) q (Nat.le_refl _), B8.out.2.2.2.2.mono q (Nat.le_refl _)⟩
  clear hb10 B8 HV9
  have zg : (g != g) = false := by simp
  have T10 := T.out w10 (Below.refl _ _)
  have x0 : w10.cell? ⟨xq, 0, none⟩ = some (.int .i64 p.sec) := T10.2.2.1.cell 0
  have x1 : w10.cell? ⟨xq, 1, none⟩ = some (.slice (some ⟨wb5, 0, none⟩) p.nw p.nw) := T10.2.2.1.cell 1
  have x2 : w10.cell? ⟨xq, 2, none⟩ = some (.slice (some ⟨yb5, 0, none⟩) p.ny p.ny) := T10.2.2.1.cell 2
  have x3 : w10.cell? ⟨xq, 3, none⟩ = some (.slice (some ⟨bb5, 0, none⟩) p.nb p.nb) := T10.2.2.1.cell 3
  have x4 : w10.cell? ⟨xq, 4, none⟩ = some (.int .i64 p.hold) := T10.2.2.1.cell 4
  have a0 : w10.cell? ⟨w.heap.size, 0, none⟩ = some (.int .i64 p.sec) := (HC.out w10 T10.1).2.1.cell 0
  have a1 : w10.cell? ⟨w.heap.size, 1, none⟩ = some (.slice wa p.nw wc) := (HC.out w10 T10.1).2.1.cell 1
  have a2 : w10.cell? ⟨w.heap.size, 2, none⟩ = some (.slice ya p.ny yc) := (HC.out w10 T10.1).2.1.cell 2
  have a3 : w10.cell? ⟨w.heap.size, 3, none⟩ = some (.slice ba p.nb bc) := (HC.out w10 T10.1).2.1.cell 3
  have a4 : w10.cell? ⟨w.heap.size, 4, none⟩ = some (.int .i64 p.hold) := (HC.out w10 T10.1).2.1.cell 4
  clear T10
  have MD2 : Hid (Below w10.heap.size w10 w10.drew) := (Below.refl _ _).drew
  go_wp2_with fail
  refine wp_region_held_drew (S := (fun wx : World => wx.cell? ⟨xq, 0, none⟩ = some (.int .i64 p.sec) ∧ wx.cell? ⟨xq, 1, none⟩ = some (.slice (some ⟨wb5, 0, none⟩) p.nw p.nw) ∧ wx.cell? ⟨xq, 2, none⟩ = some (.slice (some ⟨yb5, 0, none⟩) p.ny p.ny) ∧ wx.cell? ⟨xq, 3, none⟩ = some (.slice (some ⟨bb5, 0, none⟩) p.nb p.nb) ∧ wx.cell? ⟨xq, 4, none⟩ = some (.int .i64 p.hold) ∧ wx.cell? ⟨w.heap.size, 0, none⟩ = some (.int .i64 p.sec) ∧ wx.cell? ⟨w.heap.size, 1, none⟩ = some (.slice wa p.nw wc) ∧ wx.cell? ⟨w.heap.size, 2, none⟩ = some (.slice ya p.ny yc) ∧ wx.cell? ⟨w.heap.size, 3, none⟩ = some (.slice ba p.nb bc) ∧ wx.cell? ⟨w.heap.size, 4, none⟩ = some (.int .i64 p.hold))) (by kernel_rfl) ?_ (fun hHeld => ?_)
  · exact ⟨x0, x1, x2, x3, x4, a0, a1, a2, a3, a4⟩
  refine take_lit (i := 0) (v := ?vr2x0) rfl (by kernel_rfl) (by kernel_rfl) (by kernel_rfl) (fun _ _ _ h => h) (Or.inl ⟨by rfl, ?hyr2x0⟩) (by assumption) ?restr2x0
  case hyr2x0 => (intro wq hSw; (try dsimp only at hSw); go_simp; try with_reducible rfl)
  simp only [Act.put, List.setIfInBounds_toArray, List.set_cons_zero, List.set_cons_succ]
  refine take_lit (i := 1) (v := ?vr2x1) rfl (by kernel_rfl) (by kernel_rfl) (by kernel_rfl) (fun _ _ _ h => h) (Or.inl ⟨by rfl, ?hyr2x1⟩) (by assumption) ?restr2x1
  case hyr2x1 => (intro wq hSw; (try dsimp only at hSw); go_simp; try with_reducible rfl)
  simp only [Act.put, List.setIfInBounds_toArray, List.set_cons_zero, List.set_cons_succ]
  refine ready_lit (i := 2) (by kernel_rfl) rfl (fun K hK => ?_)
  go_simp
  refine (HTP.out _ (T.out _ MD2.out).1).mono ?_
  rintro e w11 ⟨wb7, yb7, bb7, lo7, rr7, rfl, ho11, hb11⟩
  have B11 := MD2.out.trans (hb11.mono MD2.out.size)
  have T11 := T.out w11 B11
  go_wp2_with fail
  refine hK.out _ _ ?_ (fun hHeld2 => ?_)
  · exact ⟨T11.2.2.1.cell 0, T11.2.2.1.cell 1, T11.2.2.1.cell 2, T11.2.2.1.cell 3, T11.2.2.1.cell 4, (HC.out w11 T11.1).2.1.cell 0, (HC.out w11 T11.1).2.1.cell 1, (HC.out w11 T11.1).2.1.cell 2, (HC.out w11 T11.1).2.1.cell 3, (HC.out w11 T11.1).2.1.cell 4⟩
  clear hK K
  refine ready_lit (i := 3) (by kernel_rfl) rfl (fun K hK => ?_)
  go_simp
  refine (eqPlan p _ _ _ _ _ _ _ _ _ _ _ _ w11 HS.out (T11.2.1.in (Nat.zero_le _)) (ho11.in (Nat.zero_le _))).mono ?_
  rintro e w12 ⟨rfl, hb12⟩
  have B12 := B11.trans (hb12.mono B11.size)
  have T12 := T.out w12 B12
  go_wp2_with fail
  refine hK.out _ _ ?_ (fun hHeld3 => ?_)
  · exact ⟨T12.2.2.1.cell 0, T12.2.2.1.cell 1, T12.2.2.1.cell 2, T12.2.2.1.cell 3, T12.2.2.1.cell 4, (HC.out w12 T12.1).2.1.cell 0, (HC.out w12 T12.1).2.1.cell 1, (HC.out w12 T12.1).2.1.cell 2, (HC.out w12 T12.1).2.1.cell 3, (HC.out w12 T12.1).2.1.cell 4⟩
  clear hK K
  refine take_lit (i := 4) (v := ?vr2x4) rfl (by kernel_rfl) (by kernel_rfl) (by kernel_rfl) (fun _ _ _ h => h) (Or.inl ⟨by rfl, ?hyr2x4⟩) (by assumption) ?restr2x4
  case hyr2x4 => (intro wq hSw; (try dsimp only at hSw); go_simp; try with_reducible rfl)
  simp only [Act.put, List.setIfInBounds_toArray, List.set_cons_zero, List.set_cons_succ]
  refine wpAnyH_done (by kernel_rfl) ?_ _
  clear ho11 hb11 hb12 B11 T11 T12 x0 x1 x2 x3 x4 a0 a1 a2 a3 a4
  have HB12 : Hid (Below w10.heap.size w10 w12) := B12
  clear B12
  have T13 := T.out w12 HB12.out
  have y0 : w12.cell? ⟨yq, 0, none⟩ = some (.bool f.ok) := T13.2.2.2.2.cell 0
  have y1 : w12.cell? ⟨yq, 1, none⟩ = some (.slice (some ⟨ob5, 0, none⟩) f.no f.no) := T13.2.2.2.2.cell 1
  have y2 : w12.cell? ⟨yq, 2, none⟩ = some (.slice (some ⟨pb5, 0, none⟩) f.np f.np) := T13.2.2.2.2.cell 2
  have y3 : w12.cell? ⟨yq, 3, none⟩ = some (.slice (some ⟨hb5, 0, none⟩) f.nh f.nh) := T13.2.2.2.2.cell 3
  have b0 : w12.cell? ⟨(w.heap.size + 1), 0, none⟩ = some (.bool f.ok) := (HC.out w12 T13.1).2.2.cell 0
  have b1 : w12.cell? ⟨(w.heap.size + 1), 1, none⟩ = some (.slice oa f.no oc) := (HC.out w12 T13.1).2.2.cell 1
  have b2 : w12.cell? ⟨(w.heap.size + 1), 2, none⟩ = some (.slice pa f.np pc) := (HC.out w12 T13.1).2.2.cell 2
  have b3 : w12.cell? ⟨(w.heap.size + 1), 3, none⟩ = some (.slice ha f.nh hc) := (HC.out w12 T13.1).2.2.cell 3
  clear T13
  have MD3 : Hid (Below w10.heap.size w10 w12.drew) := HB12.out.drew
  go_wp2_with fail
  refine wp_region_held_drew (S := (fun wx : World => wx.cell? ⟨yq, 0, none⟩ = some (.bool f.ok) ∧ wx.cell? ⟨yq, 1, none⟩ = some (.slice (some ⟨ob5, 0, none⟩) f.no f.no) ∧ wx.cell? ⟨yq, 2, none⟩ = some (.slice (some ⟨pb5, 0, none⟩) f.np f.np) ∧ wx.cell? ⟨yq, 3, none⟩ = some (.slice (some ⟨hb5, 0, none⟩) f.nh f.nh) ∧ wx.cell? ⟨(w.heap.size + 1), 0, none⟩ = some (.bool f.ok) ∧ wx.cell? ⟨(w.heap.size + 1), 1, none⟩ = some (.slice oa f.no oc) ∧ wx.cell? ⟨(w.heap.size + 1), 2, none⟩ = some (.slice pa f.np pc) ∧ wx.cell? ⟨(w.heap.size + 1), 3, none⟩ = some (.slice ha f.nh hc))) (by kernel_rfl) ?_ (fun hHeld => ?_)
  · exact ⟨y0, y1, y2, y3, b0, b1, b2, b3⟩
  refine take_lit (i := 0) (v := ?vr3x0) rfl (by kernel_rfl) (by kernel_rfl) (by kernel_rfl) (fun _ _ _ h => h) (Or.inl ⟨by rfl, ?hyr3x0⟩) (by assumption) ?restr3x0
  case hyr3x0 => (intro wq hSw; (try dsimp only at hSw); go_simp; try with_reducible rfl)
  simp only [Act.put, List.setIfInBounds_toArray, List.set_cons_zero, List.set_cons_succ]
  refine take_lit (i := 1) (v := ?vr3x1) rfl (by kernel_rfl) (by kernel_rfl) (by kernel_rfl) (fun _ _ _ h => h) (Or.inl ⟨by rfl, ?hyr3x1⟩) (by assumption) ?restr3x1
  case hyr3x1 => (intro wq hSw; (try dsimp only at hSw); go_simp; try with_reducible rfl)
  simp only [Act.put, List.setIfInBounds_toArray, List.set_cons_zero, List.set_cons_succ]
  refine ready_lit (i := 2) (by kernel_rfl) rfl (fun K hK => ?_)
  go_simp
  refine (HTF.out _ (T.out _ MD3.out).1).mono ?_
  rintro e w13 ⟨ob7, pb7, hb7, r7, rfl, hf13, hb13⟩
  have B13 := MD3.out.trans (hb13.mono MD3.out.size)
  have T14 := T.out w13 B13
  go_wp2_with fail
  refine hK.out _ _ ?_ (fun hHeld2 => ?_)
  · exact ⟨T14.2.2.2.2.cell 0, T14.2.2.2.2.cell 1, T14.2.2.2.2.cell 2, T14.2.2.2.2.cell 3, (HC.out w13 T14.1).2.2.cell 0, (HC.out w13 T14.1).2.2.cell 1, (HC.out w13 T14.1).2.2.cell 2, (HC.out w13 T14.1).2.2.cell 3⟩
  clear hK K
  refine ready_lit (i := 3) (by kernel_rfl) rfl (fun K hK => ?_)
  go_simp
  refine (eqFrame f _ _ _ _ _ _ _ _ _ _ _ _ w13 HFS.out (T14.2.2.2.1.in (Nat.zero_le _)) (hf13.in (Nat.zero_le _))).mono ?_
  rintro e w14 ⟨rfl, hb14⟩
  have B14 := B13.trans (hb14.mono B13.size)
  have T15 := T.out w14 B14
  go_wp2_with fail
  refine hK.out _ _ ?_ (fun hHeld3 => ?_)
  · exact ⟨T15.2.2.2.2.cell 0, T15.2.2.2.2.cell 1, T15.2.2.2.2.cell 2, T15.2.2.2.2.cell 3, (HC.out w14 T15.1).2.2.cell 0, (HC.out w14 T15.1).2.2.cell 1, (HC.out w14 T15.1).2.2.cell 2, (HC.out w14 T15.1).2.2.cell 3⟩
  clear hK K
  refine take_lit (i := 4) (v := ?vr3x4) rfl (by kernel_rfl) (by kernel_rfl) (by kernel_rfl) (fun _ _ _ h => h) (Or.inl ⟨by rfl, ?hyr3x4⟩) (by assumption) ?restr3x4
  case hyr3x4 => (intro wq hSw; (try dsimp only at hSw); go_simp; try with_reducible rfl)
  simp only [Act.put, List.setIfInBounds_toArray, List.set_cons_zero, List.set_cons_succ]
  refine wpAnyH_done (by kernel_rfl) ?_ _
  have HE : Hid (Below w.heap.size w w14) := (HC.out w14 T15.1).1
  clear hf13 hb13 hb14 B13 T14 T15 B14 y0 y1 y2 y3 b0 b1 b2 b3
  go_wp2_with fail
  go_ret
  exact ⟨rfl, HE.out⟩

end Go.Proofs.YtkeilejbelblcaaGreatDoor
