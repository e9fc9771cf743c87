import Derived.Test.YtkeilejbelblcaaGreatDoorK8
namespace Go.Proofs.YtkeilejbelblcaaGreatDoor
open Go.RowKit Go.Lib

theorem box_set7 {w : World} {b : Nat} {T : TypeId} {z0 z1 z2 z3 z4 z5 z6 v0 v1 v2 v3 v4 v5 v6 : Value} (h : Box w b T #[z0, z1, z2, z3, z4, z5, z6]) : Box (((((((w.setCell ⟨b, 0, none⟩ (v0)).setCell ⟨b, 1, none⟩ (v1)).setCell ⟨b, 2, none⟩ (v2)).setCell ⟨b, 3, none⟩ (v3)).setCell ⟨b, 4, none⟩ (v4)).setCell ⟨b, 5, none⟩ (v5)).setCell ⟨b, 6, none⟩ (v6)) b T #[v0, v1, v2, v3, v4, v5, v6] := by
  have h0 := h.set 0 v0
  have h1 := h0.set 1 v1
  have h2 := h1.set 2 v2
  have h3 := h2.set 3 v3
  have h4 := h3.set 4 v4
  have h5 := h4.set 5 v5
  have h6 := h5.set 6 v6
  simpa using h6
theorem heap_set7 {w : World} {b g : Nat} {v0 v1 v2 v3 v4 v5 v6 : Value} (h : g ≠ b) : (((((((w.setCell ⟨b, 0, none⟩ (v0)).setCell ⟨b, 1, none⟩ (v1)).setCell ⟨b, 2, none⟩ (v2)).setCell ⟨b, 3, none⟩ (v3)).setCell ⟨b, 4, none⟩ (v4)).setCell ⟨b, 5, none⟩ (v5)).setCell ⟨b, 6, none⟩ (v6)).heap[g]? = w.heap[g]? := by
  have k : ∀ (u : World) (i : Nat) (v : Value), (u.setCell ⟨b, i, none⟩ v).heap[g]? = u.heap[g]? := fun u i v => Below.heap_setCell u ⟨b, i, none⟩ v g h
  rw [k, k, k, k, k, k, k]
theorem below_set7 {M : Nat} {w0 w : World} {b : Nat} {v0 v1 v2 v3 v4 v5 v6 : Value} (h : Below M w0 w) (hb : M ≤ b) : Below M w0 (((((((w.setCell ⟨b, 0, none⟩ (v0)).setCell ⟨b, 1, none⟩ (v1)).setCell ⟨b, 2, none⟩ (v2)).setCell ⟨b, 3, none⟩ (v3)).setCell ⟨b, 4, none⟩ (v4)).setCell ⟨b, 5, none⟩ (v5)).setCell ⟨b, 6, none⟩ (v6)) := by
  have k : ∀ {u : World} (i : Nat) (v : Value), Below M w0 u → Below M w0 (u.setCell ⟨b, i, none⟩ v) := fun i v hu => hu.setCell (show M ≤ (⟨b, i, none⟩ : Addr).block from hb) v
  exact k 6 _ (k 5 _ (k 4 _ (k 3 _ (k 2 _ (k 1 _ (k 0 _ h))))))
/-- what view gives -/
def VwR (w : World) (y : Wy) (oa : Option Addr) (no oc : Nat) (O : Nat → Bool) (pa : Option Addr) (np pc : Nat) (P : Nat → Nat → Int) (e : Ending) (w' : World) : Prop :=
  ∃ b1 b2 b3 b4 b5, e = .returned (.agg #[.slice (some ⟨b1, 0, none⟩) y.ns y.ns, .slice (some ⟨b2, 0, none⟩) y.nl y.nl, .slice (some ⟨b3, 0, none⟩) y.nf y.nf, .slice (some ⟨b4, 0, none⟩) y.no y.no, .slice (some ⟨b5, 0, none⟩) y.nm y.nm, .slice oa no oc, .slice pa np pc]) ∧ VwIn w' y b1 b2 b3 b4 b5 oa no O pa np P ∧ Below w.heap.size w w'
theorem WyOwn.in_ {C : Nat} {w : World} {y : Wy} {b1 b2 b3 b4 b5 : Nat} (h : WyOwn C w y b1 b2 b3 b4 b5) : WyIn 0 w y (some ⟨b1, 0, none⟩) (some ⟨b2, 0, none⟩) (some ⟨b3, 0, none⟩) (some ⟨b4, 0, none⟩) (some ⟨b5, 0, none⟩) :=
  ⟨h.s.vs.le (Nat.zero_le _), h.l.vs.le (Nat.zero_le _), h.f.vs.le (Nat.zero_le _), h.o.vs.le (Nat.zero_le _), h.m.vs.le (Nat.zero_le _)⟩
set_option maxRecDepth 100000 in
set_option maxHeartbeats 8000000 in
theorem view69 (p : Pl) (wb yb bb : Nat) (lo rr : Nat → Nat) (oa : Option Addr) (no oc : Nat) (pa : Option Addr) (np pc : Nat) (ia : Option Addr) (ic : Nat) (O : Nat → Bool) (P : Nat → Nat → Int) (k : Nat) (w : World) (hk : k < p.ny) (hs : p.small) (hP : PlOwn 0 w p wb yb bb lo rr) (ho : VsAt 1 0 w oa no (boolF O)) (hp : VsAt 2 0 w pa np (intF P)) (hin : (p.Y k).In no np) (hno : no ≤ 1048576) (hnp : np ≤ 1048576) :
    Calls Tryz.prog 68 #[.agg #[.int .i64 p.sec, .slice (some ⟨wb, 0, none⟩) p.nw p.nw, .slice (some ⟨yb, 0, none⟩) p.ny p.ny, .slice (some ⟨bb, 0, none⟩) p.nb p.nb, .int .i64 p.hold, .slice oa no oc, .slice pa np pc, .slice ia p.ny ic], .int .i64 (k : Int)] w fun e w' => VwR w (p.Y k) oa no oc O pa np pc P e w' := by
  have hny := hs.2.1
  have hsm := hs.2.2.1 k hk
  obtain ⟨vs, hbx, _, _, _, _, hrow⟩ := hP.wy
  obtain ⟨b1, b2, b3, b4, b5, hr⟩ := hrow k hk
  have HV : Hid (VwIn w (p.Y k) b1 b2 b3 b4 b5 oa no O pa np P) := ⟨hr.own.in_, ho, hp, hin, hsm, hno, hnp⟩
  have hyl := hbx.lt
  have SX : Hid (Below w.heap.size w ((w.alloc (.cells #[.int .i64 p.sec, .slice (some ⟨wb, 0, none⟩) p.nw p.nw, .slice (some ⟨yb, 0, none⟩) p.ny p.ny, .slice (some ⟨bb, 0, none⟩) p.nb p.nb, .int .i64 p.hold, .slice oa no oc, .slice pa np pc, .slice ia p.ny ic] 84)).alloc (.cells #[.slice none 0 0, .slice none 0 0, .slice none 0 0, .slice none 0 0, .slice none 0 0, .slice none 0 0, .slice none 0 0] 114)) ∧ Box ((w.alloc (.cells #[.int .i64 p.sec, .slice (some ⟨wb, 0, none⟩) p.nw p.nw, .slice (some ⟨yb, 0, none⟩) p.ny p.ny, .slice (some ⟨bb, 0, none⟩) p.nb p.nb, .int .i64 p.hold, .slice oa no oc, .slice pa np pc, .slice ia p.ny ic] 84)).alloc (.cells #[.slice none 0 0, .slice none 0 0, .slice none 0 0, .slice none 0 0, .slice none 0 0, .slice none 0 0, .slice none 0 0] 114)) w.heap.size 84 #[.int .i64 p.sec, .slice (some ⟨wb, 0, none⟩) p.nw p.nw, .slice (some ⟨yb, 0, none⟩) p.ny p.ny, .slice (some ⟨bb, 0, none⟩) p.nb p.nb, .int .i64 p.hold, .slice oa no oc, .slice pa np pc, .slice ia p.ny ic] ∧ Box ((w.alloc (.cells #[.int .i64 p.sec, .slice (some ⟨wb, 0, none⟩) p.nw p.nw, .slice (some ⟨yb, 0, none⟩) p.ny p.ny, .slice (some ⟨bb, 0, none⟩) p.nb p.nb, .int .i64 p.hold, .slice oa no oc, .slice pa np pc, .slice ia p.ny ic] 84)).alloc (.cells #[.slice none 0 0, .slice none 0 0, .slice none 0 0, .slice none 0 0, .slice none 0 0, .slice none 0 0, .slice none 0 0] 114)) (w.heap.size + 1) 114 #[.slice none 0 0, .slice none 0 0, .slice none 0 0, .slice none 0 0, .slice none 0 0, .slice none 0 0, .slice none 0 0] ∧ Box ((w.alloc (.cells #[.int .i64 p.sec, .slice (some ⟨wb, 0, none⟩) p.nw p.nw, .slice (some ⟨yb, 0, none⟩) p.ny p.ny, .slice (some ⟨bb, 0, none⟩) p.nb p.nb, .int .i64 p.hold, .slice oa no oc, .slice pa np pc, .slice ia p.ny ic] 84)).alloc (.cells #[.slice none 0 0, .slice none 0 0, .slice none 0 0, .slice none 0 0, .slice none 0 0, .slice none 0 0, .slice none 0 0] 114)) yb 112 vs) := ⟨bel2 _ _ _, (Box.new _ _ _).alloc _, by have := Box.new (w.alloc (.cells #[.int .i64 p.sec, .slice (some ⟨wb, 0, none⟩) p.nw p.nw, .slice (some ⟨yb, 0, none⟩) p.ny p.ny, .slice (some ⟨bb, 0, none⟩) p.nb p.nb, .int .i64 p.hold, .slice oa no oc, .slice pa np pc, .slice ia p.ny ic] 84)) 114 #[.slice none 0 0, .slice none 0 0, .slice none 0 0, .slice none 0 0, .slice none 0 0, .slice none 0 0, .slice none 0 0]; simpa using this, hbx.mono (bel2 _ _ _) (Nat.le_refl _)⟩
  have hk0 : (0 : Int) ≤ (k : Int) := by omega
  have hkn : (k : Int) < (p.ny : Int) := by omega
  clear hP ho hp hin hrow hbx
  go_enter Tryz.func68, Tryz.ntmps68
  go_wp2_with fail
  generalize ((w.alloc (.cells #[.int .i64 p.sec, .slice (some ⟨wb, 0, none⟩) p.nw p.nw, .slice (some ⟨yb, 0, none⟩) p.ny p.ny, .slice (some ⟨bb, 0, none⟩) p.nb p.nb, .int .i64 p.hold, .slice oa no oc, .slice pa np pc, .slice ia p.ny ic] 84)).alloc (.cells #[.slice none 0 0, .slice none 0 0, .slice none 0 0, .slice none 0 0, .slice none 0 0, .slice none 0 0, .slice none 0 0] 114)) = W at SX ⊢
  have HR0 : Hid (vs[k * 5]? = some (.slice (some ⟨b1, 0, none⟩) (p.Y k).ns (p.Y k).ns) ∧ vs[k * 5 + 1]? = some (.slice (some ⟨b2, 0, none⟩) (p.Y k).nl (p.Y k).nl) ∧ vs[k * 5 + 2]? = some (.slice (some ⟨b3, 0, none⟩) (p.Y k).nf (p.Y k).nf) ∧ vs[k * 5 + 3]? = some (.slice (some ⟨b4, 0, none⟩) (p.Y k).no (p.Y k).no) ∧ vs[k * 5 + 4]? = some (.slice (some ⟨b5, 0, none⟩) (p.Y k).nm (p.Y k).nm)) := ⟨hr.c0, hr.c1, hr.c2, hr.c3, hr.c4⟩
  have HF : Hid (Below w.heap.size w (((((((W.setCell ⟨w.heap.size + 1, 0, none⟩ (.slice (some ⟨b1, 0, none⟩) (p.Y k).ns (p.Y k).ns)).setCell ⟨w.heap.size + 1, 1, none⟩ (.slice (some ⟨b2, 0, none⟩) (p.Y k).nl (p.Y k).nl)).setCell ⟨w.heap.size + 1, 2, none⟩ (.slice (some ⟨b3, 0, none⟩) (p.Y k).nf (p.Y k).nf)).setCell ⟨w.heap.size + 1, 3, none⟩ (.slice (some ⟨b4, 0, none⟩) (p.Y k).no (p.Y k).no)).setCell ⟨w.heap.size + 1, 4, none⟩ (.slice (some ⟨b5, 0, none⟩) (p.Y k).nm (p.Y k).nm)).setCell ⟨w.heap.size + 1, 5, none⟩ (.slice oa no oc)).setCell ⟨w.heap.size + 1, 6, none⟩ (.slice pa np pc)).drew ∧ Box (((((((W.setCell ⟨w.heap.size + 1, 0, none⟩ (.slice (some ⟨b1, 0, none⟩) (p.Y k).ns (p.Y k).ns)).setCell ⟨w.heap.size + 1, 1, none⟩ (.slice (some ⟨b2, 0, none⟩) (p.Y k).nl (p.Y k).nl)).setCell ⟨w.heap.size + 1, 2, none⟩ (.slice (some ⟨b3, 0, none⟩) (p.Y k).nf (p.Y k).nf)).setCell ⟨w.heap.size + 1, 3, none⟩ (.slice (some ⟨b4, 0, none⟩) (p.Y k).no (p.Y k).no)).setCell ⟨w.heap.size + 1, 4, none⟩ (.slice (some ⟨b5, 0, none⟩) (p.Y k).nm (p.Y k).nm)).setCell ⟨w.heap.size + 1, 5, none⟩ (.slice oa no oc)).setCell ⟨w.heap.size + 1, 6, none⟩ (.slice pa np pc)).drew (w.heap.size + 1) 114 #[.slice (some ⟨b1, 0, none⟩) (p.Y k).ns (p.Y k).ns, .slice (some ⟨b2, 0, none⟩) (p.Y k).nl (p.Y k).nl, .slice (some ⟨b3, 0, none⟩) (p.Y k).nf (p.Y k).nf, .slice (some ⟨b4, 0, none⟩) (p.Y k).no (p.Y k).no, .slice (some ⟨b5, 0, none⟩) (p.Y k).nm (p.Y k).nm, .slice oa no oc, .slice pa np pc] ∧ Box (((((((W.setCell ⟨w.heap.size + 1, 0, none⟩ (.slice (some ⟨b1, 0, none⟩) (p.Y k).ns (p.Y k).ns)).setCell ⟨w.heap.size + 1, 1, none⟩ (.slice (some ⟨b2, 0, none⟩) (p.Y k).nl (p.Y k).nl)).setCell ⟨w.heap.size + 1, 2, none⟩ (.slice (some ⟨b3, 0, none⟩) (p.Y k).nf (p.Y k).nf)).setCell ⟨w.heap.size + 1, 3, none⟩ (.slice (some ⟨b4, 0, none⟩) (p.Y k).no (p.Y k).no)).setCell ⟨w.heap.size + 1, 4, none⟩ (.slice (some ⟨b5, 0, none⟩) (p.Y k).nm (p.Y k).nm)).setCell ⟨w.heap.size + 1, 5, none⟩ (.slice oa no oc)).setCell ⟨w.heap.size + 1, 6, none⟩ (.slice pa np pc)).drew w.heap.size 84 #[.int .i64 p.sec, .slice (some ⟨wb, 0, none⟩) p.nw p.nw, .slice (some ⟨yb, 0, none⟩) p.ny p.ny, .slice (some ⟨bb, 0, none⟩) p.nb p.nb, .int .i64 p.hold, .slice oa no oc, .slice pa np pc, .slice ia p.ny ic] ∧ Box (((((((W.setCell ⟨w.heap.size + 1, 0, none⟩ (.slice (some ⟨b1, 0, none⟩) (p.Y k).ns (p.Y k).ns)).setCell ⟨w.heap.size + 1, 1, none⟩ (.slice (some ⟨b2, 0, none⟩) (p.Y k).nl (p.Y k).nl)).setCell ⟨w.heap.size + 1, 2, none⟩ (.slice (some ⟨b3, 0, none⟩) (p.Y k).nf (p.Y k).nf)).setCell ⟨w.heap.size + 1, 3, none⟩ (.slice (some ⟨b4, 0, none⟩) (p.Y k).no (p.Y k).no)).setCell ⟨w.heap.size + 1, 4, none⟩ (.slice (some ⟨b5, 0, none⟩) (p.Y k).nm (p.Y k).nm)).setCell ⟨w.heap.size + 1, 5, none⟩ (.slice oa no oc)).setCell ⟨w.heap.size + 1, 6, none⟩ (.slice pa np pc)).drew yb 112 vs) := by
    exact ⟨(below_set7 SX.out.1 (by omega)).drew, (box_set7 SX.out.2.2.1).drew, (SX.out.2.1.keep (heap_set7 (by omega))).drew, (SX.out.2.2.2.keep (heap_set7 (by omega))).drew⟩
  clear hr
  have x2 : W.cell? ⟨w.heap.size, 2, none⟩ = some (.slice (some ⟨yb, 0, none⟩) p.ny p.ny) := SX.out.2.1.cell 2
  have x5 : W.cell? ⟨w.heap.size, 5, none⟩ = some (.slice oa no oc) := SX.out.2.1.cell 5
  have x6 : W.cell? ⟨w.heap.size, 6, none⟩ = some (.slice pa np pc) := SX.out.2.1.cell 6
  have y0 : W.cell? ⟨yb, k * 5, none⟩ = some (.slice (some ⟨b1, 0, none⟩) (p.Y k).ns (p.Y k).ns) := (SX.out.2.2.2.cell _).trans HR0.out.1
  have y1 : W.cell? ⟨yb, k * 5 + 1, none⟩ = some (.slice (some ⟨b2, 0, none⟩) (p.Y k).nl (p.Y k).nl) := (SX.out.2.2.2.cell _).trans HR0.out.2.1
  have y2 : W.cell? ⟨yb, k * 5 + 2, none⟩ = some (.slice (some ⟨b3, 0, none⟩) (p.Y k).nf (p.Y k).nf) := (SX.out.2.2.2.cell _).trans HR0.out.2.2.1
  have y3 : W.cell? ⟨yb, k * 5 + 3, none⟩ = some (.slice (some ⟨b4, 0, none⟩) (p.Y k).no (p.Y k).no) := (SX.out.2.2.2.cell _).trans HR0.out.2.2.2.1
  have y4 : W.cell? ⟨yb, k * 5 + 4, none⟩ = some (.slice (some ⟨b5, 0, none⟩) (p.Y k).nm (p.Y k).nm) := (SX.out.2.2.2.cell _).trans HR0.out.2.2.2.2
  have z0 : W.cell? ⟨w.heap.size + 1, 0, none⟩ = some (.slice none 0 0) := SX.out.2.2.1.cell 0
  have f0 := SX.out.2.2.1.free 0
  have z1 : W.cell? ⟨w.heap.size + 1, 1, none⟩ = some (.slice none 0 0) := SX.out.2.2.1.cell 1
  have f1 := SX.out.2.2.1.free 1
  have z2 : W.cell? ⟨w.heap.size + 1, 2, none⟩ = some (.slice none 0 0) := SX.out.2.2.1.cell 2
  have f2 := SX.out.2.2.1.free 2
  have z3 : W.cell? ⟨w.heap.size + 1, 3, none⟩ = some (.slice none 0 0) := SX.out.2.2.1.cell 3
  have f3 := SX.out.2.2.1.free 3
  have z4 : W.cell? ⟨w.heap.size + 1, 4, none⟩ = some (.slice none 0 0) := SX.out.2.2.1.cell 4
  have f4 := SX.out.2.2.1.free 4
  have z5 : W.cell? ⟨w.heap.size + 1, 5, none⟩ = some (.slice none 0 0) := SX.out.2.2.1.cell 5
  have f5 := SX.out.2.2.1.free 5
  have z6 : W.cell? ⟨w.heap.size + 1, 6, none⟩ = some (.slice none 0 0) := SX.out.2.2.1.cell 6
  have f6 := SX.out.2.2.1.free 6
  refine wp_region_held_drew (S := (fun wx : World => wx.cell? ⟨w.heap.size, 2, none⟩ = some (.slice (some ⟨yb, 0, none⟩) p.ny p.ny) ∧ wx.cell? ⟨w.heap.size, 5, none⟩ = some (.slice oa no oc) ∧ wx.cell? ⟨w.heap.size, 6, none⟩ = some (.slice pa np pc) ∧ wx.cell? ⟨yb, k * 5, none⟩ = some (.slice (some ⟨b1, 0, none⟩) (p.Y k).ns (p.Y k).ns) ∧ wx.cell? ⟨yb, k * 5 + 1, none⟩ = some (.slice (some ⟨b2, 0, none⟩) (p.Y k).nl (p.Y k).nl) ∧ wx.cell? ⟨yb, k * 5 + 2, none⟩ = some (.slice (some ⟨b3, 0, none⟩) (p.Y k).nf (p.Y k).nf) ∧ wx.cell? ⟨yb, k * 5 + 3, none⟩ = some (.slice (some ⟨b4, 0, none⟩) (p.Y k).no (p.Y k).no) ∧ wx.cell? ⟨yb, k * 5 + 4, none⟩ = some (.slice (some ⟨b5, 0, none⟩) (p.Y k).nm (p.Y k).nm))) (by kernel_rfl) ?_ (fun hHeld => ?_)
  · exact ⟨x2, x5, x6, y0, y1, y2, y3, y4⟩
  refine take_lit (i := 0) (v := ?vr1x0) rfl (by kernel_rfl) (by kernel_rfl) (by kernel_rfl) (fun _ _ _ h => h) (Or.inl ⟨by rfl, ?hyr1x0⟩) (by assumption) ?restr1x0
  case hyr1x0 => (intro wq hSw; (try dsimp only at hSw); go_simp; try with_reducible rfl)
  simp only [Act.put, List.setIfInBounds_toArray, List.set_cons_zero, List.set_cons_succ]
  refine take_lit (i := 1) (v := ?vr1x1) rfl (by kernel_rfl) (by kernel_rfl) (by kernel_rfl) (fun _ _ _ h => h) (Or.inl ⟨by rfl, ?hyr1x1⟩) (by assumption) ?restr1x1
  case hyr1x1 => (intro wq hSw; (try dsimp only at hSw); go_simp; try with_reducible rfl)
  simp only [Act.put, List.setIfInBounds_toArray, List.set_cons_zero, List.set_cons_succ]
  refine take_lit (i := 2) (v := ?vr1x2) rfl (by kernel_rfl) (by kernel_rfl) (by kernel_rfl) (fun _ _ _ h => h) (Or.inl ⟨by rfl, ?hyr1x2⟩) (by assumption) ?restr1x2
  case hyr1x2 => (intro wq hSw; (try dsimp only at hSw); go_simp; try with_reducible rfl)
  simp only [Act.put, List.setIfInBounds_toArray, List.set_cons_zero, List.set_cons_succ]
  refine take_lit (i := 3) (v := ?vr1x3) rfl (by kernel_rfl) (by kernel_rfl) (by kernel_rfl) (fun _ _ _ h => h) (Or.inl ⟨by rfl, ?hyr1x3⟩) (by assumption) ?restr1x3
  case hyr1x3 => (intro wq hSw; (try dsimp only at hSw); go_simp; try with_reducible rfl)
  simp only [Act.put, List.setIfInBounds_toArray, List.set_cons_zero, List.set_cons_succ]
  refine take_lit (i := 4) (v := ?vr1x4) rfl (by kernel_rfl) (by kernel_rfl) (by kernel_rfl) (fun _ _ _ h => h) (Or.inl ⟨by rfl, ?hyr1x4⟩) (by assumption) ?restr1x4
  case hyr1x4 => (intro wq hSw; (try dsimp only at hSw); go_simp; try with_reducible rfl)
  simp only [Act.put, List.setIfInBounds_toArray, List.set_cons_zero, List.set_cons_succ]
  refine take_lit (i := 5) (v := ?vr1x5) rfl (by kernel_rfl) (by kernel_rfl) (by kernel_rfl) (fun _ _ _ h => h) (Or.inl ⟨by rfl, ?hyr1x5⟩) (by assumption) ?restr1x5
  case hyr1x5 => (intro wq hSw; (try dsimp only at hSw); go_simp; try with_reducible rfl)
  simp only [Act.put, List.setIfInBounds_toArray, List.set_cons_zero, List.set_cons_succ]
  refine take_lit (i := 6) (v := ?vr1x6) rfl (by kernel_rfl) (by kernel_rfl) (by kernel_rfl) (fun _ _ _ h => h) (Or.inl ⟨by rfl, ?hyr1x6⟩) (by assumption) ?restr1x6
  case hyr1x6 => (intro wq hSw; (try dsimp only at hSw); go_simp; try with_reducible rfl)
  simp only [Act.put, List.setIfInBounds_toArray, List.set_cons_zero, List.set_cons_succ]
  refine take_lit (i := 7) (v := ?vr1x7) rfl (by kernel_rfl) (by kernel_rfl) (by kernel_rfl) (fun _ _ _ h => h) (Or.inl ⟨by rfl, ?hyr1x7⟩) (by assumption) ?restr1x7
  case hyr1x7 => (intro wq hSw; (try dsimp only at hSw); go_simp; try with_reducible rfl)
  simp only [Act.put, List.setIfInBounds_toArray, List.set_cons_zero, List.set_cons_succ]
  refine take_lit (i := 8) (v := ?vr1x8) rfl (by kernel_rfl) (by kernel_rfl) (by kernel_rfl) (fun _ _ _ h => h) (Or.inl ⟨by rfl, ?hyr1x8⟩) (by assumption) ?restr1x8
  case hyr1x8 => (intro wq hSw; (try dsimp only at hSw); go_simp; try with_reducible rfl)
  simp only [Act.put, List.setIfInBounds_toArray, List.set_cons_zero, List.set_cons_succ]
  refine take_lit (i := 9) (v := ?vr1x9) rfl (by kernel_rfl) (by kernel_rfl) (by kernel_rfl) (fun _ _ _ h => h) (Or.inl ⟨by rfl, ?hyr1x9⟩) (by assumption) ?restr1x9
  case hyr1x9 => (intro wq hSw; (try dsimp only at hSw); go_simp; try with_reducible rfl)
  simp only [Act.put, List.setIfInBounds_toArray, List.set_cons_zero, List.set_cons_succ]
  refine take_lit (i := 10) (v := ?vr1x10) rfl (by kernel_rfl) (by kernel_rfl) (by kernel_rfl) (fun _ _ _ h => h) (Or.inl ⟨by rfl, ?hyr1x10⟩) (by assumption) ?restr1x10
  case hyr1x10 => (intro wq hSw; (try dsimp only at hSw); go_simp; try with_reducible rfl)
  simp only [Act.put, List.setIfInBounds_toArray, List.set_cons_zero, List.set_cons_succ]
  refine ready_lit (i := 11) (by kernel_rfl) rfl (fun K hK => ?_)
  go_simp
  refine hK.out _ _ ?_ (fun hHeld11 => ?_)
  · exact ⟨HF.out.2.2.1.cell 2, HF.out.2.2.1.cell 5, HF.out.2.2.1.cell 6, (HF.out.2.2.2.cell _).trans ((SX.out.2.2.2.cell _).symm.trans y0), (HF.out.2.2.2.cell _).trans ((SX.out.2.2.2.cell _).symm.trans y1), (HF.out.2.2.2.cell _).trans ((SX.out.2.2.2.cell _).symm.trans y2), (HF.out.2.2.2.cell _).trans ((SX.out.2.2.2.cell _).symm.trans y3), (HF.out.2.2.2.cell _).trans ((SX.out.2.2.2.cell _).symm.trans y4)⟩
  clear hK K
  refine wpAnyH_done (by kernel_rfl) ?_ _
  generalize (((((((W.setCell ⟨w.heap.size + 1, 0, none⟩ (.slice (some ⟨b1, 0, none⟩) (p.Y k).ns (p.Y k).ns)).setCell ⟨w.heap.size + 1, 1, none⟩ (.slice (some ⟨b2, 0, none⟩) (p.Y k).nl (p.Y k).nl)).setCell ⟨w.heap.size + 1, 2, none⟩ (.slice (some ⟨b3, 0, none⟩) (p.Y k).nf (p.Y k).nf)).setCell ⟨w.heap.size + 1, 3, none⟩ (.slice (some ⟨b4, 0, none⟩) (p.Y k).no (p.Y k).no)).setCell ⟨w.heap.size + 1, 4, none⟩ (.slice (some ⟨b5, 0, none⟩) (p.Y k).nm (p.Y k).nm)).setCell ⟨w.heap.size + 1, 5, none⟩ (.slice oa no oc)).setCell ⟨w.heap.size + 1, 6, none⟩ (.slice pa np pc)).drew = W9 at *
  have d0 : W9.cell? ⟨w.heap.size + 1, 0, none⟩ = some (.slice (some ⟨b1, 0, none⟩) (p.Y k).ns (p.Y k).ns) := HF.out.2.1.cell 0
  have d1 : W9.cell? ⟨w.heap.size + 1, 1, none⟩ = some (.slice (some ⟨b2, 0, none⟩) (p.Y k).nl (p.Y k).nl) := HF.out.2.1.cell 1
  have d2 : W9.cell? ⟨w.heap.size + 1, 2, none⟩ = some (.slice (some ⟨b3, 0, none⟩) (p.Y k).nf (p.Y k).nf) := HF.out.2.1.cell 2
  have d3 : W9.cell? ⟨w.heap.size + 1, 3, none⟩ = some (.slice (some ⟨b4, 0, none⟩) (p.Y k).no (p.Y k).no) := HF.out.2.1.cell 3
  have d4 : W9.cell? ⟨w.heap.size + 1, 4, none⟩ = some (.slice (some ⟨b5, 0, none⟩) (p.Y k).nm (p.Y k).nm) := HF.out.2.1.cell 4
  have d5 : W9.cell? ⟨w.heap.size + 1, 5, none⟩ = some (.slice oa no oc) := HF.out.2.1.cell 5
  have d6 : W9.cell? ⟨w.heap.size + 1, 6, none⟩ = some (.slice pa np pc) := HF.out.2.1.cell 6
  have HR : Hid (VwR w (p.Y k) oa no oc O pa np pc P (.returned (.agg #[.slice (some ⟨b1, 0, none⟩) (p.Y k).ns (p.Y k).ns, .slice (some ⟨b2, 0, none⟩) (p.Y k).nl (p.Y k).nl, .slice (some ⟨b3, 0, none⟩) (p.Y k).nf (p.Y k).nf, .slice (some ⟨b4, 0, none⟩) (p.Y k).no (p.Y k).no, .slice (some ⟨b5, 0, none⟩) (p.Y k).nm (p.Y k).nm, .slice oa no oc, .slice pa np pc])) W9) := ⟨b1, b2, b3, b4, b5, rfl, HV.out.mono HF.out.1 (Nat.le_refl _), HF.out.1⟩
  go_wp2_with fail
  exact bodyPost_ret (v := .agg #[.slice (some ⟨b1, 0, none⟩) (p.Y k).ns (p.Y k).ns, .slice (some ⟨b2, 0, none⟩) (p.Y k).nl (p.Y k).nl, .slice (some ⟨b3, 0, none⟩) (p.Y k).nf (p.Y k).nf, .slice (some ⟨b4, 0, none⟩) (p.Y k).no (p.Y k).no, .slice (some ⟨b5, 0, none⟩) (p.Y k).nm (p.Y k).nm, .slice oa no oc, .slice pa np pc]) (by simp [results, Tryz.results68, go_sem, d0, d1, d2, d3, d4, d5, d6]) rfl HR.out

end Go.Proofs.YtkeilejbelblcaaGreatDoor
