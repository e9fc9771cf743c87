import Derived.Test.YtkeilejbelblcaaGreatDoorK7
import Derived.Test.YtkeilejbelblcaaGreatDoorGBoBm
namespace Go.Proofs.YtkeilejbelblcaaGreatDoor
open Go.RowKit Go.Lib

theorem VOwn.made1 {w : World} {b m : Nat} (hb : Box w b 4 (mk0 (.bool false) m)) (hm : m ≤ 1048576) : VsAt 1 0 w (some ⟨b, 0, none⟩) m (boolF fun _ => false) := (VOwn.made hb hm).vs.le (Nat.zero_le _)
set_option maxRecDepth 100000 in
set_option maxHeartbeats 4000000 in
theorem entered198 (y : Wy) (b1 b2 b3 b4 b5 : Nat) (oa : Option Addr) (no oc : Nat) (O : Nat → Bool) (pa : Option Addr) (np pc : Nat) (P : Nat → Nat → Int) (sh : Bool) (w : World) (hn1 : 1 ≤ y.ns) (h : VwIn w y b1 b2 b3 b4 b5 oa no O pa np P) :
    Calls Tryz.prog 199 #[.bool sh, .agg #[.slice (some ⟨b1, 0, none⟩) y.ns y.ns, .slice (some ⟨b2, 0, none⟩) y.nl y.nl, .slice (some ⟨b3, 0, none⟩) y.nf y.nf, .slice (some ⟨b4, 0, none⟩) y.no y.no, .slice (some ⟨b5, 0, none⟩) y.nm y.nm, .slice oa no oc, .slice pa np pc]] w fun e w' => SlR w y.ns (useS ⟨y.ns, fun k => O (y.S k).toNat, prvB y O P⟩ 0 (fun _ => false) sh) e w' := by
  have H : Hid (VwIn w y b1 b2 b3 b4 b5 oa no O pa np P) := h
  have hns : y.ns ≤ 1048576 := by have := h.sm.1; omega
  clear h
  have hmk := make_rows (P := Tryz.prog) 27 4 _ 1 1 Tryz.underlying27 infoBool y.ns (by omega) (by omega)
  simp only [Nat.mul_one] at hmk
  have SX : Hid (Below w.heap.size w (w.alloc (.cells #[.slice (some ⟨b1, 0, none⟩) y.ns y.ns, .slice (some ⟨b2, 0, none⟩) y.nl y.nl, .slice (some ⟨b3, 0, none⟩) y.nf y.nf, .slice (some ⟨b4, 0, none⟩) y.no y.no, .slice (some ⟨b5, 0, none⟩) y.nm y.nm, .slice oa no oc, .slice pa np pc] 114)) ∧ Box (w.alloc (.cells #[.slice (some ⟨b1, 0, none⟩) y.ns y.ns, .slice (some ⟨b2, 0, none⟩) y.nl y.nl, .slice (some ⟨b3, 0, none⟩) y.nf y.nf, .slice (some ⟨b4, 0, none⟩) y.no y.no, .slice (some ⟨b5, 0, none⟩) y.nm y.nm, .slice oa no oc, .slice pa np pc] 114)) w.heap.size 114 #[.slice (some ⟨b1, 0, none⟩) y.ns y.ns, .slice (some ⟨b2, 0, none⟩) y.nl y.nl, .slice (some ⟨b3, 0, none⟩) y.nf y.nf, .slice (some ⟨b4, 0, none⟩) y.no y.no, .slice (some ⟨b5, 0, none⟩) y.nm y.nm, .slice oa no oc, .slice pa np pc]) := ⟨bel1 _ _, Box.new w 114 #[.slice (some ⟨b1, 0, none⟩) y.ns y.ns, .slice (some ⟨b2, 0, none⟩) y.nl y.nl, .slice (some ⟨b3, 0, none⟩) y.nf y.nf, .slice (some ⟨b4, 0, none⟩) y.no y.no, .slice (some ⟨b5, 0, none⟩) y.nm y.nm, .slice oa no oc, .slice pa np pc]⟩
  have BX0 := Box.new w 114 #[.slice (some ⟨b1, 0, none⟩) y.ns y.ns, .slice (some ⟨b2, 0, none⟩) y.nl y.nl, .slice (some ⟨b3, 0, none⟩) y.nf y.nf, .slice (some ⟨b4, 0, none⟩) y.no y.no, .slice (some ⟨b5, 0, none⟩) y.nm y.nm, .slice oa no oc, .slice pa np pc]
  have v0 : (w.alloc (.cells #[.slice (some ⟨b1, 0, none⟩) y.ns y.ns, .slice (some ⟨b2, 0, none⟩) y.nl y.nl, .slice (some ⟨b3, 0, none⟩) y.nf y.nf, .slice (some ⟨b4, 0, none⟩) y.no y.no, .slice (some ⟨b5, 0, none⟩) y.nm y.nm, .slice oa no oc, .slice pa np pc] 114)).cell? ⟨w.heap.size, 0, none⟩ = some (.slice (some ⟨b1, 0, none⟩) y.ns y.ns) := BX0.cell 0
  have v1 : (w.alloc (.cells #[.slice (some ⟨b1, 0, none⟩) y.ns y.ns, .slice (some ⟨b2, 0, none⟩) y.nl y.nl, .slice (some ⟨b3, 0, none⟩) y.nf y.nf, .slice (some ⟨b4, 0, none⟩) y.no y.no, .slice (some ⟨b5, 0, none⟩) y.nm y.nm, .slice oa no oc, .slice pa np pc] 114)).cell? ⟨w.heap.size, 1, none⟩ = some (.slice (some ⟨b2, 0, none⟩) y.nl y.nl) := BX0.cell 1
  have v2 : (w.alloc (.cells #[.slice (some ⟨b1, 0, none⟩) y.ns y.ns, .slice (some ⟨b2, 0, none⟩) y.nl y.nl, .slice (some ⟨b3, 0, none⟩) y.nf y.nf, .slice (some ⟨b4, 0, none⟩) y.no y.no, .slice (some ⟨b5, 0, none⟩) y.nm y.nm, .slice oa no oc, .slice pa np pc] 114)).cell? ⟨w.heap.size, 2, none⟩ = some (.slice (some ⟨b3, 0, none⟩) y.nf y.nf) := BX0.cell 2
  have v3 : (w.alloc (.cells #[.slice (some ⟨b1, 0, none⟩) y.ns y.ns, .slice (some ⟨b2, 0, none⟩) y.nl y.nl, .slice (some ⟨b3, 0, none⟩) y.nf y.nf, .slice (some ⟨b4, 0, none⟩) y.no y.no, .slice (some ⟨b5, 0, none⟩) y.nm y.nm, .slice oa no oc, .slice pa np pc] 114)).cell? ⟨w.heap.size, 3, none⟩ = some (.slice (some ⟨b4, 0, none⟩) y.no y.no) := BX0.cell 3
  have v4 : (w.alloc (.cells #[.slice (some ⟨b1, 0, none⟩) y.ns y.ns, .slice (some ⟨b2, 0, none⟩) y.nl y.nl, .slice (some ⟨b3, 0, none⟩) y.nf y.nf, .slice (some ⟨b4, 0, none⟩) y.no y.no, .slice (some ⟨b5, 0, none⟩) y.nm y.nm, .slice oa no oc, .slice pa np pc] 114)).cell? ⟨w.heap.size, 4, none⟩ = some (.slice (some ⟨b5, 0, none⟩) y.nm y.nm) := BX0.cell 4
  have v5 : (w.alloc (.cells #[.slice (some ⟨b1, 0, none⟩) y.ns y.ns, .slice (some ⟨b2, 0, none⟩) y.nl y.nl, .slice (some ⟨b3, 0, none⟩) y.nf y.nf, .slice (some ⟨b4, 0, none⟩) y.no y.no, .slice (some ⟨b5, 0, none⟩) y.nm y.nm, .slice oa no oc, .slice pa np pc] 114)).cell? ⟨w.heap.size, 5, none⟩ = some (.slice oa no oc) := BX0.cell 5
  have v6 : (w.alloc (.cells #[.slice (some ⟨b1, 0, none⟩) y.ns y.ns, .slice (some ⟨b2, 0, none⟩) y.nl y.nl, .slice (some ⟨b3, 0, none⟩) y.nf y.nf, .slice (some ⟨b4, 0, none⟩) y.no y.no, .slice (some ⟨b5, 0, none⟩) y.nm y.nm, .slice oa no oc, .slice pa np pc] 114)).cell? ⟨w.heap.size, 6, none⟩ = some (.slice pa np pc) := BX0.cell 6
  clear BX0
  go_enter Tryz.func199, Tryz.ntmps199
  go_wp2_with fail
  generalize w.alloc (.cells #[.slice (some ⟨b1, 0, none⟩) y.ns y.ns, .slice (some ⟨b2, 0, none⟩) y.nl y.nl, .slice (some ⟨b3, 0, none⟩) y.nf y.nf, .slice (some ⟨b4, 0, none⟩) y.no y.no, .slice (some ⟨b5, 0, none⟩) y.nm y.nm, .slice oa no oc, .slice pa np pc] 114) = W at *
  have hlt : w.heap.size < W.heap.size := SX.out.2.lt
  refine wp_region_held_drew (S := (fun wx : World => wx.cell? ⟨w.heap.size, 0, none⟩ = some (.slice (some ⟨b1, 0, none⟩) y.ns y.ns) ∧ wx.cell? ⟨w.heap.size, 1, none⟩ = some (.slice (some ⟨b2, 0, none⟩) y.nl y.nl) ∧ wx.cell? ⟨w.heap.size, 2, none⟩ = some (.slice (some ⟨b3, 0, none⟩) y.nf y.nf) ∧ wx.cell? ⟨w.heap.size, 3, none⟩ = some (.slice (some ⟨b4, 0, none⟩) y.no y.no) ∧ wx.cell? ⟨w.heap.size, 4, none⟩ = some (.slice (some ⟨b5, 0, none⟩) y.nm y.nm) ∧ wx.cell? ⟨w.heap.size, 5, none⟩ = some (.slice oa no oc) ∧ wx.cell? ⟨w.heap.size, 6, none⟩ = some (.slice pa np pc))) (by kernel_rfl) ?_ (fun hHeld => ?_)
  · exact ⟨v0, v1, v2, v3, v4, v5, v6⟩
  refine take_lit (i := 0) (v := ?vr1x0) rfl (by kernel_rfl) (by kernel_rfl) (by kernel_rfl) (fun _ _ _ h => h) (Or.inl ⟨by rfl, ?hyr1x0⟩) (by assumption) ?restr1x0
  case hyr1x0 => (intro wq hSw; (try dsimp only at hSw); go_simp; try with_reducible rfl)
  simp only [Act.put, List.setIfInBounds_toArray, List.set_cons_zero, List.set_cons_succ]
  refine take_lit (i := 1) (v := ?vr1x1) rfl (by kernel_rfl) (by kernel_rfl) (by kernel_rfl) (fun _ _ _ h => h) (Or.inl ⟨by rfl, ?hyr1x1⟩) (by assumption) ?restr1x1
  case hyr1x1 => (intro wq hSw; (try dsimp only at hSw); go_simp; try with_reducible rfl)
  simp only [Act.put, List.setIfInBounds_toArray, List.set_cons_zero, List.set_cons_succ]
  refine take_lit (i := 2) (v := ?vr1x2) rfl (by kernel_rfl) (by kernel_rfl) (by kernel_rfl) (fun _ _ _ h => h) (Or.inl ⟨by rfl, ?hyr1x2⟩) (by assumption) ?restr1x2
  case hyr1x2 => (intro wq hSw; (try dsimp only at hSw); go_simp; try with_reducible rfl)
  simp only [Act.put, List.setIfInBounds_toArray, List.set_cons_zero, List.set_cons_succ]
  refine take_lit (i := 3) (v := ?vr1x3) rfl (by kernel_rfl) (by kernel_rfl) (by kernel_rfl) (fun _ _ _ h => h) (Or.inl ⟨by rfl, ?hyr1x3⟩) (by assumption) ?restr1x3
  case hyr1x3 => (intro wq hSw; (try dsimp only at hSw); go_simp; try with_reducible rfl)
  simp only [Act.put, List.setIfInBounds_toArray, List.set_cons_zero, List.set_cons_succ]
  refine take_lit (i := 5) (v := ?vr1x5) rfl (by kernel_rfl) (by kernel_rfl) (by kernel_rfl) (fun _ _ _ h => h) (Or.inl ⟨by rfl, ?hyr1x5⟩) (by assumption) ?restr1x5
  case hyr1x5 => (intro wq hSw; (try dsimp only at hSw); go_simp; try with_reducible rfl)
  simp only [Act.put, List.setIfInBounds_toArray, List.set_cons_zero, List.set_cons_succ]
  refine take_lit (i := 7) (v := ?vr1x7) rfl (by kernel_rfl) (by kernel_rfl) (by kernel_rfl) (fun _ _ _ h => h) (Or.inl ⟨by rfl, ?hyr1x7⟩) (by assumption) ?restr1x7
  case hyr1x7 => (intro wq hSw; (try dsimp only at hSw); go_simp; try with_reducible rfl)
  simp only [Act.put, List.setIfInBounds_toArray, List.set_cons_zero, List.set_cons_succ]
  refine ready_lit (i := 4) (by kernel_rfl) rfl (fun K hK => ?_)
  go_wp2_with fail
  have SX4 : Hid (Below w.heap.size w (W.alloc (.cells (mk0 (.bool false) y.ns) 4)).drew ∧ Box (W.alloc (.cells (mk0 (.bool false) y.ns) 4)).drew w.heap.size 114 #[.slice (some ⟨b1, 0, none⟩) y.ns y.ns, .slice (some ⟨b2, 0, none⟩) y.nl y.nl, .slice (some ⟨b3, 0, none⟩) y.nf y.nf, .slice (some ⟨b4, 0, none⟩) y.no y.no, .slice (some ⟨b5, 0, none⟩) y.nm y.nm, .slice oa no oc, .slice pa np pc] ∧ Box (W.alloc (.cells (mk0 (.bool false) y.ns) 4)).drew W.heap.size 4 (mk0 (.bool false) y.ns)) := ⟨(SX.out.1.alloc SX.out.1.size _).drew, (SX.out.2.alloc _).drew, (Box.new W 4 (mk0 (.bool false) y.ns)).drew⟩
  refine hK.out _ _ ?_ (fun hHeld4 => ?_)
  · exact ⟨SX4.out.2.1.cell 0, SX4.out.2.1.cell 1, SX4.out.2.1.cell 2, SX4.out.2.1.cell 3, SX4.out.2.1.cell 4, SX4.out.2.1.cell 5, SX4.out.2.1.cell 6⟩
  clear hK K
  refine take_lit (i := 6) (v := ?vr1x6) rfl (by kernel_rfl) (by kernel_rfl) (by kernel_rfl) (fun _ _ _ h => h) (Or.inl ⟨by rfl, ?hyr1x6⟩) (by assumption) ?restr1x6
  case hyr1x6 => (intro wq hSw; (try dsimp only at hSw); go_simp; try with_reducible rfl)
  simp only [Act.put, List.setIfInBounds_toArray, List.set_cons_zero, List.set_cons_succ]
  refine ready_lit (i := 8) (by kernel_rfl) rfl (fun K hK => ?_)
  go_simp
  go_at_call 200
  refine (used199 y b1 b2 b3 b4 b5 oa no oc O pa np pc P 0 W.heap.size y.ns (fun _ => false) sh _ hn1 (Nat.zero_le _) (H.out.mono SX4.out.1 (Nat.le_refl _)) (VOwn.made1 SX4.out.2.2 hns)).mono ?_
  rintro e w5 ⟨v, rfl, hv, hb5⟩
  have HF : Hid (SlR w y.ns (useS ⟨y.ns, fun k => O (y.S k).toNat, prvB y O P⟩ 0 (fun _ => false) sh) (.returned v) w5) := ⟨v, rfl, hv, SX4.out.1.trans (hb5.mono SX4.out.1.size)⟩
  have BX5 := SX4.out.2.1.mono hb5 (Nat.le_refl _)
  go_wp2_with fail
  refine hK.out _ _ ?_ (fun hHeld8 => ?_)
  · exact ⟨BX5.cell 0, BX5.cell 1, BX5.cell 2, BX5.cell 3, BX5.cell 4, BX5.cell 5, BX5.cell 6⟩
  clear hK K
  refine take_lit (i := 9) (v := ?vr1x9) rfl (by kernel_rfl) (by kernel_rfl) (by kernel_rfl) (fun _ _ _ h => h) (Or.inl ⟨by rfl, ?hyr1x9⟩) (by assumption) ?restr1x9
  case hyr1x9 => (intro wq hSw; (try dsimp only at hSw); go_simp; try with_reducible rfl)
  simp only [Act.put, List.setIfInBounds_toArray, List.set_cons_zero, List.set_cons_succ]
  refine wpAnyH_done (by kernel_rfl) ?_ _
  go_wp2_with fail
  go_ret
  exact HF.out
set_option maxRecDepth 100000 in
set_option maxHeartbeats 4000000 in
theorem idle193 (y : Wy) (b1 b2 b3 b4 b5 : Nat) (oa : Option Addr) (no oc : Nat) (O : Nat → Bool) (pa : Option Addr) (np pc : Nat) (P : Nat → Nat → Int) (w : World)  :
    Calls Tryz.prog 194 #[.agg #[], .agg #[.slice (some ⟨b1, 0, none⟩) y.ns y.ns, .slice (some ⟨b2, 0, none⟩) y.nl y.nl, .slice (some ⟨b3, 0, none⟩) y.nf y.nf, .slice (some ⟨b4, 0, none⟩) y.no y.no, .slice (some ⟨b5, 0, none⟩) y.nm y.nm, .slice oa no oc, .slice pa np pc]] w fun e w' => SlR w y.ns (WS.settle ⟨y.ns, fun k => O (y.S k).toNat, prvB y O P⟩ .idle) e w' := by
  have HF : Hid (SlR w y.ns (WS.settle ⟨y.ns, fun k => O (y.S k).toNat, prvB y O P⟩ .idle) (.returned (.iface 161 (.agg #[]))) ((w.alloc (.cells #[] 161)).alloc (.cells #[.slice (some ⟨b1, 0, none⟩) y.ns y.ns, .slice (some ⟨b2, 0, none⟩) y.nl y.nl, .slice (some ⟨b3, 0, none⟩) y.nf y.nf, .slice (some ⟨b4, 0, none⟩) y.no y.no, .slice (some ⟨b5, 0, none⟩) y.nm y.nm, .slice oa no oc, .slice pa np pc] 114))) := ⟨_, rfl, rfl, bel2 _ _ _⟩
  go_enter Tryz.func194, Tryz.ntmps194
  go_wp2_with fail
  go_ret
  exact HF.out
set_option maxRecDepth 100000 in
set_option maxHeartbeats 4000000 in
theorem set196 (y : Wy) (b1 b2 b3 b4 b5 : Nat) (oa : Option Addr) (no oc : Nat) (O : Nat → Bool) (pa : Option Addr) (np pc : Nat) (P : Nat → Nat → Int) (sh : Bool) (w : World) (hn1 : 1 ≤ y.ns) (h : VwIn w y b1 b2 b3 b4 b5 oa no O pa np P) :
    Calls Tryz.prog 197 #[.agg #[.bool sh], .agg #[.slice (some ⟨b1, 0, none⟩) y.ns y.ns, .slice (some ⟨b2, 0, none⟩) y.nl y.nl, .slice (some ⟨b3, 0, none⟩) y.nf y.nf, .slice (some ⟨b4, 0, none⟩) y.no y.no, .slice (some ⟨b5, 0, none⟩) y.nm y.nm, .slice oa no oc, .slice pa np pc]] w fun e w' => SlR w y.ns (WS.settle ⟨y.ns, fun k => O (y.S k).toNat, prvB y O P⟩ (.set sh)) e w' := by
  have H : Hid (VwIn w y b1 b2 b3 b4 b5 oa no O pa np P) := h
  have hns : y.ns ≤ 1048576 := by have := h.sm.1; omega
  clear h
  have SX : Hid (Below w.heap.size w ((w.alloc (.cells #[.bool sh] 163)).alloc (.cells #[.slice (some ⟨b1, 0, none⟩) y.ns y.ns, .slice (some ⟨b2, 0, none⟩) y.nl y.nl, .slice (some ⟨b3, 0, none⟩) y.nf y.nf, .slice (some ⟨b4, 0, none⟩) y.no y.no, .slice (some ⟨b5, 0, none⟩) y.nm y.nm, .slice oa no oc, .slice pa np pc] 114)) ∧ Box ((w.alloc (.cells #[.bool sh] 163)).alloc (.cells #[.slice (some ⟨b1, 0, none⟩) y.ns y.ns, .slice (some ⟨b2, 0, none⟩) y.nl y.nl, .slice (some ⟨b3, 0, none⟩) y.nf y.nf, .slice (some ⟨b4, 0, none⟩) y.no y.no, .slice (some ⟨b5, 0, none⟩) y.nm y.nm, .slice oa no oc, .slice pa np pc] 114)) w.heap.size 163 #[.bool sh] ∧ Box ((w.alloc (.cells #[.bool sh] 163)).alloc (.cells #[.slice (some ⟨b1, 0, none⟩) y.ns y.ns, .slice (some ⟨b2, 0, none⟩) y.nl y.nl, .slice (some ⟨b3, 0, none⟩) y.nf y.nf, .slice (some ⟨b4, 0, none⟩) y.no y.no, .slice (some ⟨b5, 0, none⟩) y.nm y.nm, .slice oa no oc, .slice pa np pc] 114)) (w.heap.size + 1) 114 #[.slice (some ⟨b1, 0, none⟩) y.ns y.ns, .slice (some ⟨b2, 0, none⟩) y.nl y.nl, .slice (some ⟨b3, 0, none⟩) y.nf y.nf, .slice (some ⟨b4, 0, none⟩) y.no y.no, .slice (some ⟨b5, 0, none⟩) y.nm y.nm, .slice oa no oc, .slice pa np pc]) := ⟨bel2 _ _ _, (Box.new _ _ _).alloc _, by have := Box.new (w.alloc (.cells #[.bool sh] 163)) 114 #[.slice (some ⟨b1, 0, none⟩) y.ns y.ns, .slice (some ⟨b2, 0, none⟩) y.nl y.nl, .slice (some ⟨b3, 0, none⟩) y.nf y.nf, .slice (some ⟨b4, 0, none⟩) y.no y.no, .slice (some ⟨b5, 0, none⟩) y.nm y.nm, .slice oa no oc, .slice pa np pc]; simpa using this⟩
  go_enter Tryz.func197, Tryz.ntmps197
  go_wp2_with fail
  generalize ((w.alloc (.cells #[.bool sh] 163)).alloc (.cells #[.slice (some ⟨b1, 0, none⟩) y.ns y.ns, .slice (some ⟨b2, 0, none⟩) y.nl y.nl, .slice (some ⟨b3, 0, none⟩) y.nf y.nf, .slice (some ⟨b4, 0, none⟩) y.no y.no, .slice (some ⟨b5, 0, none⟩) y.nm y.nm, .slice oa no oc, .slice pa np pc] 114)) = W at *
  refine (filled197 y b1 b2 b3 b4 b5 oa no oc O pa np pc P 0 W (by omega) (H.out.mono SX.out.1 (Nat.le_refl _))).mono ?_
  rintro e w1 ⟨he, hb1⟩
  have SY : Hid (Below w.heap.size w w1 ∧ Box w1 w.heap.size 163 #[.bool sh] ∧ Box w1 (w.heap.size + 1) 114 #[.slice (some ⟨b1, 0, none⟩) y.ns y.ns, .slice (some ⟨b2, 0, none⟩) y.nl y.nl, .slice (some ⟨b3, 0, none⟩) y.nf y.nf, .slice (some ⟨b4, 0, none⟩) y.no y.no, .slice (some ⟨b5, 0, none⟩) y.nm y.nm, .slice oa no oc, .slice pa np pc]) := ⟨SX.out.1.trans (hb1.mono SX.out.1.size), SX.out.2.1.mono hb1 (Nat.le_refl _), SX.out.2.2.mono hb1 (Nat.le_refl _)⟩
  clear hb1 SX
  have v0 : w1.cell? ⟨w.heap.size + 1, 0, none⟩ = some (.slice (some ⟨b1, 0, none⟩) y.ns y.ns) := SY.out.2.2.cell 0
  have v1 : w1.cell? ⟨w.heap.size + 1, 1, none⟩ = some (.slice (some ⟨b2, 0, none⟩) y.nl y.nl) := SY.out.2.2.cell 1
  have v2 : w1.cell? ⟨w.heap.size + 1, 2, none⟩ = some (.slice (some ⟨b3, 0, none⟩) y.nf y.nf) := SY.out.2.2.cell 2
  have v3 : w1.cell? ⟨w.heap.size + 1, 3, none⟩ = some (.slice (some ⟨b4, 0, none⟩) y.no y.no) := SY.out.2.2.cell 3
  have v4 : w1.cell? ⟨w.heap.size + 1, 4, none⟩ = some (.slice (some ⟨b5, 0, none⟩) y.nm y.nm) := SY.out.2.2.cell 4
  have v5 : w1.cell? ⟨w.heap.size + 1, 5, none⟩ = some (.slice oa no oc) := SY.out.2.2.cell 5
  have v6 : w1.cell? ⟨w.heap.size + 1, 6, none⟩ = some (.slice pa np pc) := SY.out.2.2.cell 6
  have u0 : w1.cell? ⟨w.heap.size, 0, none⟩ = some (.bool sh) := SY.out.2.1.cell 0
  cases hO : O (y.S 0).toNat with
  | true =>
    rw [hO] at he
    subst he
    have HS : Hid (WS.settle ⟨y.ns, fun k => O (y.S k).toNat, prvB y O P⟩ (.set sh) = useS ⟨y.ns, fun k => O (y.S k).toNat, prvB y O P⟩ 0 (fun _ => false) sh) := by
      show WS.settle _ _ = _
      simp [WS.settle, hO]
    go_wp2_with fail
    refine (entered198 y b1 b2 b3 b4 b5 oa no oc O pa np pc P sh w1 hn1 (H.out.mono SY.out.1 (Nat.le_refl _))).mono ?_
    rintro e w2 ⟨v, rfl, hv, hb2⟩
    have HF : Hid (SlR w y.ns (WS.settle ⟨y.ns, fun k => O (y.S k).toNat, prvB y O P⟩ (.set sh)) (.returned v) w2) := by
      rw [Hid, HS.out]
      exact ⟨v, rfl, hv, SY.out.1.trans (hb2.mono SY.out.1.size)⟩
    go_wp2_with fail
    go_ret
    exact HF.out
  | false =>
    rw [hO] at he
    subst he
    go_wp2_with fail
    refine (proved70 y b1 b2 b3 b4 b5 oa no oc O pa np pc P w1 (H.out.mono SY.out.1 (Nat.le_refl _))).mono ?_
    rintro e w2 ⟨he, hb2⟩
    have SZ : Hid (Below w.heap.size w w2 ∧ Box w2 w.heap.size 163 #[.bool sh]) := ⟨SY.out.1.trans (hb2.mono SY.out.1.size), SY.out.2.1.mono hb2 (Nat.le_refl _)⟩
    have u0 : w2.cell? ⟨w.heap.size, 0, none⟩ = some (.bool sh) := SZ.out.2.cell 0
    clear hb2 SY v0 v1 v2 v3 v4 v5 v6
    cases hp : prvB y O P with
    | true =>
      rw [hp] at he
      subst he
      have HF : Hid (SlR w y.ns (WS.settle ⟨y.ns, fun k => O (y.S k).toNat, true⟩ (.set sh)) (.returned (.iface 164 (.agg #[]))) w2) := by
        have : WS.settle ⟨y.ns, fun k => O (y.S k).toNat, true⟩ (.set sh) = .clear := by simp [WS.settle, hO]
        rw [Hid, this]
        exact ⟨_, rfl, rfl, SZ.out.1⟩
      go_wp2_with fail
      go_ret
      rw [← hp] at HF
      exact HF.out
    | false =>
      rw [hp] at he
      subst he
      have HF : Hid (SlR w y.ns (WS.settle ⟨y.ns, fun k => O (y.S k).toNat, false⟩ (.set sh)) (.returned (.iface 163 (.agg #[.bool sh]))) w2) := by
        have : WS.settle ⟨y.ns, fun k => O (y.S k).toNat, false⟩ (.set sh) = .set sh := by simp [WS.settle, hO]
        rw [Hid, this]
        exact ⟨_, rfl, rfl, SZ.out.1⟩
      go_wp2_with fail
      go_ret
      rw [← hp] at HF
      exact HF.out
set_option maxRecDepth 100000 in
set_option maxHeartbeats 4000000 in
theorem taking206 (y : Wy) (b1 b2 b3 b4 b5 : Nat) (oa : Option Addr) (no oc : Nat) (O : Nat → Bool) (pa : Option Addr) (np pc : Nat) (P : Nat → Nat → Int) (t : Int) (w : World) (hn1 : 1 ≤ y.ns) (h : VwIn w y b1 b2 b3 b4 b5 oa no O pa np P) :
    Calls Tryz.prog 207 #[.agg #[.int .i64 t], .agg #[.slice (some ⟨b1, 0, none⟩) y.ns y.ns, .slice (some ⟨b2, 0, none⟩) y.nl y.nl, .slice (some ⟨b3, 0, none⟩) y.nf y.nf, .slice (some ⟨b4, 0, none⟩) y.no y.no, .slice (some ⟨b5, 0, none⟩) y.nm y.nm, .slice oa no oc, .slice pa np pc]] w fun e w' => SlR w y.ns (WS.settle ⟨y.ns, fun k => O (y.S k).toNat, prvB y O P⟩ (.taking t)) e w' := by
  have H : Hid (VwIn w y b1 b2 b3 b4 b5 oa no O pa np P) := h
  have hns : y.ns ≤ 1048576 := by have := h.sm.1; omega
  clear h
  have SX : Hid (Below w.heap.size w ((w.alloc (.cells #[.int .i64 t] 166)).alloc (.cells #[.slice (some ⟨b1, 0, none⟩) y.ns y.ns, .slice (some ⟨b2, 0, none⟩) y.nl y.nl, .slice (some ⟨b3, 0, none⟩) y.nf y.nf, .slice (some ⟨b4, 0, none⟩) y.no y.no, .slice (some ⟨b5, 0, none⟩) y.nm y.nm, .slice oa no oc, .slice pa np pc] 114)) ∧ Box ((w.alloc (.cells #[.int .i64 t] 166)).alloc (.cells #[.slice (some ⟨b1, 0, none⟩) y.ns y.ns, .slice (some ⟨b2, 0, none⟩) y.nl y.nl, .slice (some ⟨b3, 0, none⟩) y.nf y.nf, .slice (some ⟨b4, 0, none⟩) y.no y.no, .slice (some ⟨b5, 0, none⟩) y.nm y.nm, .slice oa no oc, .slice pa np pc] 114)) w.heap.size 166 #[.int .i64 t] ∧ Box ((w.alloc (.cells #[.int .i64 t] 166)).alloc (.cells #[.slice (some ⟨b1, 0, none⟩) y.ns y.ns, .slice (some ⟨b2, 0, none⟩) y.nl y.nl, .slice (some ⟨b3, 0, none⟩) y.nf y.nf, .slice (some ⟨b4, 0, none⟩) y.no y.no, .slice (some ⟨b5, 0, none⟩) y.nm y.nm, .slice oa no oc, .slice pa np pc] 114)) (w.heap.size + 1) 114 #[.slice (some ⟨b1, 0, none⟩) y.ns y.ns, .slice (some ⟨b2, 0, none⟩) y.nl y.nl, .slice (some ⟨b3, 0, none⟩) y.nf y.nf, .slice (some ⟨b4, 0, none⟩) y.no y.no, .slice (some ⟨b5, 0, none⟩) y.nm y.nm, .slice oa no oc, .slice pa np pc]) := ⟨bel2 _ _ _, (Box.new _ _ _).alloc _, by have := Box.new (w.alloc (.cells #[.int .i64 t] 166)) 114 #[.slice (some ⟨b1, 0, none⟩) y.ns y.ns, .slice (some ⟨b2, 0, none⟩) y.nl y.nl, .slice (some ⟨b3, 0, none⟩) y.nf y.nf, .slice (some ⟨b4, 0, none⟩) y.no y.no, .slice (some ⟨b5, 0, none⟩) y.nm y.nm, .slice oa no oc, .slice pa np pc]; simpa using this⟩
  go_enter Tryz.func207, Tryz.ntmps207
  go_wp2_with fail
  generalize ((w.alloc (.cells #[.int .i64 t] 166)).alloc (.cells #[.slice (some ⟨b1, 0, none⟩) y.ns y.ns, .slice (some ⟨b2, 0, none⟩) y.nl y.nl, .slice (some ⟨b3, 0, none⟩) y.nf y.nf, .slice (some ⟨b4, 0, none⟩) y.no y.no, .slice (some ⟨b5, 0, none⟩) y.nm y.nm, .slice oa no oc, .slice pa np pc] 114)) = W at *
  refine (filled197 y b1 b2 b3 b4 b5 oa no oc O pa np pc P 0 W (by omega) (H.out.mono SX.out.1 (Nat.le_refl _))).mono ?_
  rintro e w1 ⟨he, hb1⟩
  have SY : Hid (Below w.heap.size w w1 ∧ Box w1 w.heap.size 166 #[.int .i64 t] ∧ Box w1 (w.heap.size + 1) 114 #[.slice (some ⟨b1, 0, none⟩) y.ns y.ns, .slice (some ⟨b2, 0, none⟩) y.nl y.nl, .slice (some ⟨b3, 0, none⟩) y.nf y.nf, .slice (some ⟨b4, 0, none⟩) y.no y.no, .slice (some ⟨b5, 0, none⟩) y.nm y.nm, .slice oa no oc, .slice pa np pc]) := ⟨SX.out.1.trans (hb1.mono SX.out.1.size), SX.out.2.1.mono hb1 (Nat.le_refl _), SX.out.2.2.mono hb1 (Nat.le_refl _)⟩
  clear hb1 SX
  have v0 : w1.cell? ⟨w.heap.size + 1, 0, none⟩ = some (.slice (some ⟨b1, 0, none⟩) y.ns y.ns) := SY.out.2.2.cell 0
  have v1 : w1.cell? ⟨w.heap.size + 1, 1, none⟩ = some (.slice (some ⟨b2, 0, none⟩) y.nl y.nl) := SY.out.2.2.cell 1
  have v2 : w1.cell? ⟨w.heap.size + 1, 2, none⟩ = some (.slice (some ⟨b3, 0, none⟩) y.nf y.nf) := SY.out.2.2.cell 2
  have v3 : w1.cell? ⟨w.heap.size + 1, 3, none⟩ = some (.slice (some ⟨b4, 0, none⟩) y.no y.no) := SY.out.2.2.cell 3
  have v4 : w1.cell? ⟨w.heap.size + 1, 4, none⟩ = some (.slice (some ⟨b5, 0, none⟩) y.nm y.nm) := SY.out.2.2.cell 4
  have v5 : w1.cell? ⟨w.heap.size + 1, 5, none⟩ = some (.slice oa no oc) := SY.out.2.2.cell 5
  have v6 : w1.cell? ⟨w.heap.size + 1, 6, none⟩ = some (.slice pa np pc) := SY.out.2.2.cell 6
  have u0 : w1.cell? ⟨w.heap.size, 0, none⟩ = some (.int .i64 t) := SY.out.2.1.cell 0
  cases hO : O (y.S 0).toNat with
  | true =>
    rw [hO] at he
    subst he
    have HS : Hid (WS.settle ⟨y.ns, fun k => O (y.S k).toNat, prvB y O P⟩ (.taking t) = useS ⟨y.ns, fun k => O (y.S k).toNat, prvB y O P⟩ 0 (fun _ => false) true) := by
      show WS.settle _ _ = _
      simp [WS.settle, hO]
    go_wp2_with fail
    refine (entered198 y b1 b2 b3 b4 b5 oa no oc O pa np pc P true w1 hn1 (H.out.mono SY.out.1 (Nat.le_refl _))).mono ?_
    rintro e w2 ⟨v, rfl, hv, hb2⟩
    have HF : Hid (SlR w y.ns (WS.settle ⟨y.ns, fun k => O (y.S k).toNat, prvB y O P⟩ (.taking t)) (.returned v) w2) := by
      rw [Hid, HS.out]
      exact ⟨v, rfl, hv, SY.out.1.trans (hb2.mono SY.out.1.size)⟩
    go_wp2_with fail
    go_ret
    exact HF.out
  | false =>
    rw [hO] at he
    subst he
    have HF : Hid (SlR w y.ns (WS.settle ⟨y.ns, fun k => O (y.S k).toNat, prvB y O P⟩ (.taking t)) (.returned (.iface 166 (.agg #[.int .i64 t]))) w1) := by
      have : WS.settle ⟨y.ns, fun k => O (y.S k).toNat, prvB y O P⟩ (.taking t) = .taking t := by simp [WS.settle, hO]
      rw [Hid, this]
      exact ⟨_, rfl, rfl, SY.out.1⟩
    go_wp2_with fail
    go_ret
    exact HF.out
set_option maxRecDepth 100000 in
set_option maxHeartbeats 4000000 in
theorem clear203 (y : Wy) (b1 b2 b3 b4 b5 : Nat) (oa : Option Addr) (no oc : Nat) (O : Nat → Bool) (pa : Option Addr) (np pc : Nat) (P : Nat → Nat → Int) (w : World) (hn1 : 1 ≤ y.ns) (h : VwIn w y b1 b2 b3 b4 b5 oa no O pa np P) :
    Calls Tryz.prog 204 #[.agg #[], .agg #[.slice (some ⟨b1, 0, none⟩) y.ns y.ns, .slice (some ⟨b2, 0, none⟩) y.nl y.nl, .slice (some ⟨b3, 0, none⟩) y.nf y.nf, .slice (some ⟨b4, 0, none⟩) y.no y.no, .slice (some ⟨b5, 0, none⟩) y.nm y.nm, .slice oa no oc, .slice pa np pc]] w fun e w' => SlR w y.ns (WS.settle ⟨y.ns, fun k => O (y.S k).toNat, prvB y O P⟩ .clear) e w' := by
  have H : Hid (VwIn w y b1 b2 b3 b4 b5 oa no O pa np P) := h
  have hns : y.ns ≤ 1048576 := by have := h.sm.1; omega
  clear h
  have HS : Hid (WS.settle ⟨y.ns, fun k => O (y.S k).toNat, prvB y O P⟩ .clear = WS.settle ⟨y.ns, fun k => O (y.S k).toNat, prvB y O P⟩ (.set true)) := rfl
  have SX : Hid (Below w.heap.size w ((w.alloc (.cells #[] 164)).alloc (.cells #[.slice (some ⟨b1, 0, none⟩) y.ns y.ns, .slice (some ⟨b2, 0, none⟩) y.nl y.nl, .slice (some ⟨b3, 0, none⟩) y.nf y.nf, .slice (some ⟨b4, 0, none⟩) y.no y.no, .slice (some ⟨b5, 0, none⟩) y.nm y.nm, .slice oa no oc, .slice pa np pc] 114)) ∧ Box ((w.alloc (.cells #[] 164)).alloc (.cells #[.slice (some ⟨b1, 0, none⟩) y.ns y.ns, .slice (some ⟨b2, 0, none⟩) y.nl y.nl, .slice (some ⟨b3, 0, none⟩) y.nf y.nf, .slice (some ⟨b4, 0, none⟩) y.no y.no, .slice (some ⟨b5, 0, none⟩) y.nm y.nm, .slice oa no oc, .slice pa np pc] 114)) w.heap.size 164 #[] ∧ Box ((w.alloc (.cells #[] 164)).alloc (.cells #[.slice (some ⟨b1, 0, none⟩) y.ns y.ns, .slice (some ⟨b2, 0, none⟩) y.nl y.nl, .slice (some ⟨b3, 0, none⟩) y.nf y.nf, .slice (some ⟨b4, 0, none⟩) y.no y.no, .slice (some ⟨b5, 0, none⟩) y.nm y.nm, .slice oa no oc, .slice pa np pc] 114)) (w.heap.size + 1) 114 #[.slice (some ⟨b1, 0, none⟩) y.ns y.ns, .slice (some ⟨b2, 0, none⟩) y.nl y.nl, .slice (some ⟨b3, 0, none⟩) y.nf y.nf, .slice (some ⟨b4, 0, none⟩) y.no y.no, .slice (some ⟨b5, 0, none⟩) y.nm y.nm, .slice oa no oc, .slice pa np pc]) := ⟨bel2 _ _ _, (Box.new _ _ _).alloc _, by have := Box.new (w.alloc (.cells #[] 164)) 114 #[.slice (some ⟨b1, 0, none⟩) y.ns y.ns, .slice (some ⟨b2, 0, none⟩) y.nl y.nl, .slice (some ⟨b3, 0, none⟩) y.nf y.nf, .slice (some ⟨b4, 0, none⟩) y.no y.no, .slice (some ⟨b5, 0, none⟩) y.nm y.nm, .slice oa no oc, .slice pa np pc]; simpa using this⟩
  go_enter Tryz.func204, Tryz.ntmps204
  go_wp2_with fail
  generalize ((w.alloc (.cells #[] 164)).alloc (.cells #[.slice (some ⟨b1, 0, none⟩) y.ns y.ns, .slice (some ⟨b2, 0, none⟩) y.nl y.nl, .slice (some ⟨b3, 0, none⟩) y.nf y.nf, .slice (some ⟨b4, 0, none⟩) y.no y.no, .slice (some ⟨b5, 0, none⟩) y.nm y.nm, .slice oa no oc, .slice pa np pc] 114)) = W at *
  refine (set196 y b1 b2 b3 b4 b5 oa no oc O pa np pc P true W hn1 (H.out.mono SX.out.1 (Nat.le_refl _))).mono ?_
  rintro e w2 ⟨v, rfl, hv, hb2⟩
  have HF : Hid (SlR w y.ns (WS.settle ⟨y.ns, fun k => O (y.S k).toNat, prvB y O P⟩ .clear) (.returned v) w2) := by
    rw [Hid, HS.out]
    exact ⟨v, rfl, hv, SX.out.1.trans (hb2.mono SX.out.1.size)⟩
  go_wp2_with fail
  go_ret
  exact HF.out

end Go.Proofs.YtkeilejbelblcaaGreatDoor
