import Derived.Test.YtlgapgajgpilgaaGreatDoorZav
namespace Go.Proofs.YtlgapgajgpilgaaGreatDoor
open Go.RowKit Go.Lib
theorem box_set7 {w : World} {b : Nat} {T : TypeId} {z0 z1 z2 z3 z4 z5 z6 v0 v1 v2 v3 v4 v5 v6 : Value} (h : Box w b T #[z0, z1, z2, z3, z4, z5, z6]) : Box (((((((w.setCell ⟨b, 0, none⟩ (v0)).setCell ⟨b, 1, none⟩ (v1)).setCell ⟨b, 2, none⟩ (v2)).setCell ⟨b, 3, none⟩ (v3)).setCell ⟨b, 4, none⟩ (v4)).setCell ⟨b, 5, none⟩ (v5)).setCell ⟨b, 6, none⟩ (v6)) b T #[v0, v1, v2, v3, v4, v5, v6] := by
 have h0 := h.set 0 v0
 have h1 := h0.set 1 v1
 have h2 := h1.set 2 v2
 have h3 := h2.set 3 v3
 have h4 := h3.set 4 v4
 have h5 := h4.set 5 v5
 have h6 := h5.set 6 v6
 simpa using h6
theorem heap_set7 {w : World} {b g : Nat} {v0 v1 v2 v3 v4 v5 v6 : Value} (h : g ≠ b) : (((((((w.setCell ⟨b, 0, none⟩ (v0)).setCell ⟨b, 1, none⟩ (v1)).setCell ⟨b, 2, none⟩ (v2)).setCell ⟨b, 3, none⟩ (v3)).setCell ⟨b, 4, none⟩ (v4)).setCell ⟨b, 5, none⟩ (v5)).setCell ⟨b, 6, none⟩ (v6)).heap[g]? = w.heap[g]? := by
 have k : ∀ (u : World) (i : Nat) (v : Value), (u.setCell ⟨b, i, none⟩ v).heap[g]? = u.heap[g]? := fun u i v => Below.heap_setCell u ⟨b, i, none⟩ v g h
 rw [k, k, k, k, k, k, k]
theorem below_set7 {M : Nat} {w0 w : World} {b : Nat} {v0 v1 v2 v3 v4 v5 v6 : Value} (h : Below M w0 w) (hb : M ≤ b) : Below M w0 (((((((w.setCell ⟨b, 0, none⟩ (v0)).setCell ⟨b, 1, none⟩ (v1)).setCell ⟨b, 2, none⟩ (v2)).setCell ⟨b, 3, none⟩ (v3)).setCell ⟨b, 4, none⟩ (v4)).setCell ⟨b, 5, none⟩ (v5)).setCell ⟨b, 6, none⟩ (v6)) := by
 have k : ∀ {u : World} (i : Nat) (v : Value), Below M w0 u → Below M w0 (u.setCell ⟨b, i, none⟩ v) := fun i v hu => hu.setCell (show M ≤ (⟨b, i, none⟩ : Addr).block from hb) v
 exact k 6 _ (k 5 _ (k 4 _ (k 3 _ (k 2 _ (k 1 _ (k 0 _ h))))))
def VwR (w : World) (y : Wy) (oa : Option Addr) (no oc : Nat) (O : Nat → Bool) (pa : Option Addr) (np pc : Nat) (P : Nat → Nat → Int) (e : Ending) (w' : World) : Prop :=
 ∃ b1 b2 b3 b4 b5, e = .returned (.agg #[.slice (some ⟨b1, 0, none⟩) y.ns y.ns, .slice (some ⟨b2, 0, none⟩) y.nl y.nl, .slice (some ⟨b3, 0, none⟩) y.nf y.nf, .slice (some ⟨b4, 0, none⟩) y.no y.no, .slice (some ⟨b5, 0, none⟩) y.nm y.nm, .slice oa no oc, .slice pa np pc]) ∧ VwIn w' y b1 b2 b3 b4 b5 oa no O pa np P ∧ Below w.heap.size w w'
theorem WyOwn.in_ {C : Nat} {w : World} {y : Wy} {b1 b2 b3 b4 b5 : Nat} (h : WyOwn C w y b1 b2 b3 b4 b5) : WyIn 0 w y (some ⟨b1, 0, none⟩) (some ⟨b2, 0, none⟩) (some ⟨b3, 0, none⟩) (some ⟨b4, 0, none⟩) (some ⟨b5, 0, none⟩) :=
 ⟨h.s.vs.le (Nat.zero_le _), h.l.vs.le (Nat.zero_le _), h.f.vs.le (Nat.zero_le _), h.o.vs.le (Nat.zero_le _), h.m.vs.le (Nat.zero_le _)⟩
set_option maxRecDepth 100000 in
set_option maxHeartbeats 8000000 in
theorem view69 (p : Pl) (wb yb bb : Nat) (lo rr : Nat → Nat) (oa : Option Addr) (no oc : Nat) (pa : Option Addr) (np pc : Nat) (ia : Option Addr) (ic : Nat) (O : Nat → Bool) (P : Nat → Nat → Int) (k : Nat) (w : World) (hk : k < p.ny) (hs : p.small) (hP : PlOwn 0 w p wb yb bb lo rr) (ho : VsAt 1 0 w oa no (boolF O)) (hp : VsAt 2 0 w pa np (intF P)) (hin : (p.Y k).In no np) (hno : no ≤ 1048576) (hnp : np ≤ 1048576) :
  Calls Tryz.prog 97 #[.agg #[.int .i64 p.sec, .slice (some ⟨wb, 0, none⟩) p.nw p.nw, .slice (some ⟨yb, 0, none⟩) p.ny p.ny, .slice (some ⟨bb, 0, none⟩) p.nb p.nb, .int .i64 p.hold, .slice oa no oc, .slice pa np pc, .slice ia p.ny ic], .int .i64 (k : Int)] w fun e w' => VwR w (p.Y k) oa no oc O pa np pc P e w' := by
 have hny := hs.2.1
 have hsm := hs.2.2.1 k hk
 obtain ⟨vs, hbx, _, _, _, _, hrow⟩ := hP.wy
 obtain ⟨b1, b2, b3, b4, b5, hr⟩ := hrow k hk
 have HV : Hid (VwIn w (p.Y k) b1 b2 b3 b4 b5 oa no O pa np P) := ⟨hr.own.in_, ho, hp, hin, hsm, hno, hnp⟩
 have hyl := hbx.lt
 have SX : Hid (Below w.heap.size w ((w.alloc (.cells #[.int .i64 p.sec, .slice (some ⟨wb, 0, none⟩) p.nw p.nw, .slice (some ⟨yb, 0, none⟩) p.ny p.ny, .slice (some ⟨bb, 0, none⟩) p.nb p.nb, .int .i64 p.hold, .slice oa no oc, .slice pa np pc, .slice ia p.ny ic] 73)).alloc (.cells #[.slice none 0 0, .slice none 0 0, .slice none 0 0, .slice none 0 0, .slice none 0 0, .slice none 0 0, .slice none 0 0] 144)) ∧ Box ((w.alloc (.cells #[.int .i64 p.sec, .slice (some ⟨wb, 0, none⟩) p.nw p.nw, .slice (some ⟨yb, 0, none⟩) p.ny p.ny, .slice (some ⟨bb, 0, none⟩) p.nb p.nb, .int .i64 p.hold, .slice oa no oc, .slice pa np pc, .slice ia p.ny ic] 73)).alloc (.cells #[.slice none 0 0, .slice none 0 0, .slice none 0 0, .slice none 0 0, .slice none 0 0, .slice none 0 0, .slice none 0 0] 144)) w.heap.size 73 #[.int .i64 p.sec, .slice (some ⟨wb, 0, none⟩) p.nw p.nw, .slice (some ⟨yb, 0, none⟩) p.ny p.ny, .slice (some ⟨bb, 0, none⟩) p.nb p.nb, .int .i64 p.hold, .slice oa no oc, .slice pa np pc, .slice ia p.ny ic] ∧ Box ((w.alloc (.cells #[.int .i64 p.sec, .slice (some ⟨wb, 0, none⟩) p.nw p.nw, .slice (some ⟨yb, 0, none⟩) p.ny p.ny, .slice (some ⟨bb, 0, none⟩) p.nb p.nb, .int .i64 p.hold, .slice oa no oc, .slice pa np pc, .slice ia p.ny ic] 73)).alloc (.cells #[.slice none 0 0, .slice none 0 0, .slice none 0 0, .slice none 0 0, .slice none 0 0, .slice none 0 0, .slice none 0 0] 144)) (w.heap.size + 1) 144 #[.slice none 0 0, .slice none 0 0, .slice none 0 0, .slice none 0 0, .slice none 0 0, .slice none 0 0, .slice none 0 0] ∧ Box ((w.alloc (.cells #[.int .i64 p.sec, .slice (some ⟨wb, 0, none⟩) p.nw p.nw, .slice (some ⟨yb, 0, none⟩) p.ny p.ny, .slice (some ⟨bb, 0, none⟩) p.nb p.nb, .int .i64 p.hold, .slice oa no oc, .slice pa np pc, .slice ia p.ny ic] 73)).alloc (.cells #[.slice none 0 0, .slice none 0 0, .slice none 0 0, .slice none 0 0, .slice none 0 0, .slice none 0 0, .slice none 0 0] 144)) yb 96 vs) := ⟨bel2 _ _ _, (Box.new _ _ _).alloc _, by have := Box.new (w.alloc (.cells #[.int .i64 p.sec, .slice (some ⟨wb, 0, none⟩) p.nw p.nw, .slice (some ⟨yb, 0, none⟩) p.ny p.ny, .slice (some ⟨bb, 0, none⟩) p.nb p.nb, .int .i64 p.hold, .slice oa no oc, .slice pa np pc, .slice ia p.ny ic] 73)) 144 #[.slice none 0 0, .slice none 0 0, .slice none 0 0, .slice none 0 0, .slice none 0 0, .slice none 0 0, .slice none 0 0]; simpa using this, hbx.mono (bel2 _ _ _) nr⟩
 have hk0 : (0 : Int) ≤ (k : Int) := by omega
 have hkn : (k : Int) < (p.ny : Int) := by omega
 clear hP ho hp hin hrow hbx
 go_enter Tryz.func97, Tryz.ntmps97
 go_wp2_with fail
 generalize ((w.alloc (.cells #[.int .i64 p.sec, .slice (some ⟨wb, 0, none⟩) p.nw p.nw, .slice (some ⟨yb, 0, none⟩) p.ny p.ny, .slice (some ⟨bb, 0, none⟩) p.nb p.nb, .int .i64 p.hold, .slice oa no oc, .slice pa np pc, .slice ia p.ny ic] 73)).alloc (.cells #[.slice none 0 0, .slice none 0 0, .slice none 0 0, .slice none 0 0, .slice none 0 0, .slice none 0 0, .slice none 0 0] 144)) = W at SX ⊢
 have HR0 : Hid (vs[k * 5]? = some (.slice (some ⟨b1, 0, none⟩) (p.Y k).ns (p.Y k).ns) ∧ vs[k * 5 + 1]? = some (.slice (some ⟨b2, 0, none⟩) (p.Y k).nl (p.Y k).nl) ∧ vs[k * 5 + 2]? = some (.slice (some ⟨b3, 0, none⟩) (p.Y k).nf (p.Y k).nf) ∧ vs[k * 5 + 3]? = some (.slice (some ⟨b4, 0, none⟩) (p.Y k).no (p.Y k).no) ∧ vs[k * 5 + 4]? = some (.slice (some ⟨b5, 0, none⟩) (p.Y k).nm (p.Y k).nm)) := ⟨hr.c0, hr.c1, hr.c2, hr.c3, hr.c4⟩
 have HF : Hid (Below w.heap.size w (((((((W.setCell ⟨w.heap.size + 1, 0, none⟩ (.slice (some ⟨b1, 0, none⟩) (p.Y k).ns (p.Y k).ns)).setCell ⟨w.heap.size + 1, 1, none⟩ (.slice (some ⟨b2, 0, none⟩) (p.Y k).nl (p.Y k).nl)).setCell ⟨w.heap.size + 1, 2, none⟩ (.slice (some ⟨b3, 0, none⟩) (p.Y k).nf (p.Y k).nf)).setCell ⟨w.heap.size + 1, 3, none⟩ (.slice (some ⟨b4, 0, none⟩) (p.Y k).no (p.Y k).no)).setCell ⟨w.heap.size + 1, 4, none⟩ (.slice (some ⟨b5, 0, none⟩) (p.Y k).nm (p.Y k).nm)).setCell ⟨w.heap.size + 1, 5, none⟩ (.slice oa no oc)).setCell ⟨w.heap.size + 1, 6, none⟩ (.slice pa np pc)).drew ∧ Box (((((((W.setCell ⟨w.heap.size + 1, 0, none⟩ (.slice (some ⟨b1, 0, none⟩) (p.Y k).ns (p.Y k).ns)).setCell ⟨w.heap.size + 1, 1, none⟩ (.slice (some ⟨b2, 0, none⟩) (p.Y k).nl (p.Y k).nl)).setCell ⟨w.heap.size + 1, 2, none⟩ (.slice (some ⟨b3, 0, none⟩) (p.Y k).nf (p.Y k).nf)).setCell ⟨w.heap.size + 1, 3, none⟩ (.slice (some ⟨b4, 0, none⟩) (p.Y k).no (p.Y k).no)).setCell ⟨w.heap.size + 1, 4, none⟩ (.slice (some ⟨b5, 0, none⟩) (p.Y k).nm (p.Y k).nm)).setCell ⟨w.heap.size + 1, 5, none⟩ (.slice oa no oc)).setCell ⟨w.heap.size + 1, 6, none⟩ (.slice pa np pc)).drew (w.heap.size + 1) 144 #[.slice (some ⟨b1, 0, none⟩) (p.Y k).ns (p.Y k).ns, .slice (some ⟨b2, 0, none⟩) (p.Y k).nl (p.Y k).nl, .slice (some ⟨b3, 0, none⟩) (p.Y k).nf (p.Y k).nf, .slice (some ⟨b4, 0, none⟩) (p.Y k).no (p.Y k).no, .slice (some ⟨b5, 0, none⟩) (p.Y k).nm (p.Y k).nm, .slice oa no oc, .slice pa np pc] ∧ Box (((((((W.setCell ⟨w.heap.size + 1, 0, none⟩ (.slice (some ⟨b1, 0, none⟩) (p.Y k).ns (p.Y k).ns)).setCell ⟨w.heap.size + 1, 1, none⟩ (.slice (some ⟨b2, 0, none⟩) (p.Y k).nl (p.Y k).nl)).setCell ⟨w.heap.size + 1, 2, none⟩ (.slice (some ⟨b3, 0, none⟩) (p.Y k).nf (p.Y k).nf)).setCell ⟨w.heap.size + 1, 3, none⟩ (.slice (some ⟨b4, 0, none⟩) (p.Y k).no (p.Y k).no)).setCell ⟨w.heap.size + 1, 4, none⟩ (.slice (some ⟨b5, 0, none⟩) (p.Y k).nm (p.Y k).nm)).setCell ⟨w.heap.size + 1, 5, none⟩ (.slice oa no oc)).setCell ⟨w.heap.size + 1, 6, none⟩ (.slice pa np pc)).drew w.heap.size 73 #[.int .i64 p.sec, .slice (some ⟨wb, 0, none⟩) p.nw p.nw, .slice (some ⟨yb, 0, none⟩) p.ny p.ny, .slice (some ⟨bb, 0, none⟩) p.nb p.nb, .int .i64 p.hold, .slice oa no oc, .slice pa np pc, .slice ia p.ny ic] ∧ Box (((((((W.setCell ⟨w.heap.size + 1, 0, none⟩ (.slice (some ⟨b1, 0, none⟩) (p.Y k).ns (p.Y k).ns)).setCell ⟨w.heap.size + 1, 1, none⟩ (.slice (some ⟨b2, 0, none⟩) (p.Y k).nl (p.Y k).nl)).setCell ⟨w.heap.size + 1, 2, none⟩ (.slice (some ⟨b3, 0, none⟩) (p.Y k).nf (p.Y k).nf)).setCell ⟨w.heap.size + 1, 3, none⟩ (.slice (some ⟨b4, 0, none⟩) (p.Y k).no (p.Y k).no)).setCell ⟨w.heap.size + 1, 4, none⟩ (.slice (some ⟨b5, 0, none⟩) (p.Y k).nm (p.Y k).nm)).setCell ⟨w.heap.size + 1, 5, none⟩ (.slice oa no oc)).setCell ⟨w.heap.size + 1, 6, none⟩ (.slice pa np pc)).drew yb 96 vs) := by
  exact ⟨(below_set7 SX.out.1 (by omega)).drew, (box_set7 SX.out.2.2.1).drew, (SX.out.2.1.keep (heap_set7 (by omega))).drew, (SX.out.2.2.2.keep (heap_set7 (by omega))).drew⟩
 clear hr
 have x2 := SX.out.2.1.cel 2
 have x5 := SX.out.2.1.cel 5
 have x6 := SX.out.2.1.cel 6
 have y0 : W.cell? ⟨yb, k * 5, none⟩ = some (.slice (some ⟨b1, 0, none⟩) (p.Y k).ns (p.Y k).ns) := (SX.out.2.2.2.cell _).trans HR0.out.1
 have y1 : W.cell? ⟨yb, k * 5 + 1, none⟩ = some (.slice (some ⟨b2, 0, none⟩) (p.Y k).nl (p.Y k).nl) := (SX.out.2.2.2.cell _).trans HR0.out.2.1
 have y2 : W.cell? ⟨yb, k * 5 + 2, none⟩ = some (.slice (some ⟨b3, 0, none⟩) (p.Y k).nf (p.Y k).nf) := (SX.out.2.2.2.cell _).trans HR0.out.2.2.1
 have y3 : W.cell? ⟨yb, k * 5 + 3, none⟩ = some (.slice (some ⟨b4, 0, none⟩) (p.Y k).no (p.Y k).no) := (SX.out.2.2.2.cell _).trans HR0.out.2.2.2.1
 have y4 : W.cell? ⟨yb, k * 5 + 4, none⟩ = some (.slice (some ⟨b5, 0, none⟩) (p.Y k).nm (p.Y k).nm) := (SX.out.2.2.2.cell _).trans HR0.out.2.2.2.2
 have z0 := SX.out.2.2.1.cel 0
 have f0 := SX.out.2.2.1.free 0
 have z1 := SX.out.2.2.1.cel 1
 have f1 := SX.out.2.2.1.free 1
 have z2 := SX.out.2.2.1.cel 2
 have f2 := SX.out.2.2.1.free 2
 have z3 := SX.out.2.2.1.cel 3
 have f3 := SX.out.2.2.1.free 3
 have z4 := SX.out.2.2.1.cel 4
 have f4 := SX.out.2.2.1.free 4
 have z5 := SX.out.2.2.1.cel 5
 have f5 := SX.out.2.2.1.free 5
 have z6 := SX.out.2.2.1.cel 6
 have f6 := SX.out.2.2.1.free 6
 refine wp_region_held_drew (S := (fun wx : World => wx.cell? ⟨w.heap.size, 2, none⟩ = some (.slice (some ⟨yb, 0, none⟩) p.ny p.ny) ∧ wx.cell? ⟨w.heap.size, 5, none⟩ = some (.slice oa no oc) ∧ wx.cell? ⟨w.heap.size, 6, none⟩ = some (.slice pa np pc) ∧ wx.cell? ⟨yb, k * 5, none⟩ = some (.slice (some ⟨b1, 0, none⟩) (p.Y k).ns (p.Y k).ns) ∧ wx.cell? ⟨yb, k * 5 + 1, none⟩ = some (.slice (some ⟨b2, 0, none⟩) (p.Y k).nl (p.Y k).nl) ∧ wx.cell? ⟨yb, k * 5 + 2, none⟩ = some (.slice (some ⟨b3, 0, none⟩) (p.Y k).nf (p.Y k).nf) ∧ wx.cell? ⟨yb, k * 5 + 3, none⟩ = some (.slice (some ⟨b4, 0, none⟩) (p.Y k).no (p.Y k).no) ∧ wx.cell? ⟨yb, k * 5 + 4, none⟩ = some (.slice (some ⟨b5, 0, none⟩) (p.Y k).nm (p.Y k).nm))) (by kernel_rfl) ?_ (fun hHeld => ?_)
 ·
  exact ⟨x2, x5, x6, y0, y1, y2, y3, y4⟩
 refine tk 0 ?_
 refine tk 1 ?_
 refine tk 2 ?_
 refine tk 3 ?_
 refine tk 4 ?_
 refine tk 5 ?_
 refine tk 6 ?_
 refine tk 7 ?_
 refine tk 8 ?_
 refine tk 9 ?_
 refine tk 10 ?_
 refine rl 11 fun K hK => ?_
 go_simp
 refine hK.out _ _ ?_ (fun hHeld11 => ?_)
 ·
  exact ⟨HF.out.2.2.1.cell 2, HF.out.2.2.1.cell 5, HF.out.2.2.1.cell 6, (HF.out.2.2.2.cell _).trans ((SX.out.2.2.2.cell _).symm.trans y0), (HF.out.2.2.2.cell _).trans ((SX.out.2.2.2.cell _).symm.trans y1), (HF.out.2.2.2.cell _).trans ((SX.out.2.2.2.cell _).symm.trans y2), (HF.out.2.2.2.cell _).trans ((SX.out.2.2.2.cell _).symm.trans y3), (HF.out.2.2.2.cell _).trans ((SX.out.2.2.2.cell _).symm.trans y4)⟩
 clear hK K
 refine wpAnyH_done (by kernel_rfl) ?_ _
 generalize (((((((W.setCell ⟨w.heap.size + 1, 0, none⟩ (.slice (some ⟨b1, 0, none⟩) (p.Y k).ns (p.Y k).ns)).setCell ⟨w.heap.size + 1, 1, none⟩ (.slice (some ⟨b2, 0, none⟩) (p.Y k).nl (p.Y k).nl)).setCell ⟨w.heap.size + 1, 2, none⟩ (.slice (some ⟨b3, 0, none⟩) (p.Y k).nf (p.Y k).nf)).setCell ⟨w.heap.size + 1, 3, none⟩ (.slice (some ⟨b4, 0, none⟩) (p.Y k).no (p.Y k).no)).setCell ⟨w.heap.size + 1, 4, none⟩ (.slice (some ⟨b5, 0, none⟩) (p.Y k).nm (p.Y k).nm)).setCell ⟨w.heap.size + 1, 5, none⟩ (.slice oa no oc)).setCell ⟨w.heap.size + 1, 6, none⟩ (.slice pa np pc)).drew = W9 at *
 have d0 := HF.out.2.1.cel 0
 have d1 := HF.out.2.1.cel 1
 have d2 := HF.out.2.1.cel 2
 have d3 := HF.out.2.1.cel 3
 have d4 := HF.out.2.1.cel 4
 have d5 := HF.out.2.1.cel 5
 have d6 := HF.out.2.1.cel 6
 have HR : Hid (VwR w (p.Y k) oa no oc O pa np pc P (.returned (.agg #[.slice (some ⟨b1, 0, none⟩) (p.Y k).ns (p.Y k).ns, .slice (some ⟨b2, 0, none⟩) (p.Y k).nl (p.Y k).nl, .slice (some ⟨b3, 0, none⟩) (p.Y k).nf (p.Y k).nf, .slice (some ⟨b4, 0, none⟩) (p.Y k).no (p.Y k).no, .slice (some ⟨b5, 0, none⟩) (p.Y k).nm (p.Y k).nm, .slice oa no oc, .slice pa np pc])) W9) := ⟨b1, b2, b3, b4, b5, rfl, HV.out.mono HF.out.1 nr, HF.out.1⟩
 go_wp2_with fail
 exact bodyPost_ret (v := .agg #[.slice (some ⟨b1, 0, none⟩) (p.Y k).ns (p.Y k).ns, .slice (some ⟨b2, 0, none⟩) (p.Y k).nl (p.Y k).nl, .slice (some ⟨b3, 0, none⟩) (p.Y k).nf (p.Y k).nf, .slice (some ⟨b4, 0, none⟩) (p.Y k).no (p.Y k).no, .slice (some ⟨b5, 0, none⟩) (p.Y k).nm (p.Y k).nm, .slice oa no oc, .slice pa np pc]) (by simp [results, Tryz.results97, go_sem, d0, d1, d2, d3, d4, d5, d6]) rfl HR.out
end Go.Proofs.YtlgapgajgpilgaaGreatDoor
namespace Go.Proofs.YtlgapgajgpilgaaGreatDoor
open Go.RowKit Go.Lib
theorem infoState : (Tryz.prog.info? 121).map (fun i => (i.zero, i.size, i.bytes)) = some (some .nilIface, 1, 16) := by kernel_rfl
structure WlOwn (M : Nat) (w : World) (a : Option Addr) (n c : Nat) (N : Nat → Nat) (S : Nat → WS) (v : Nat → Value) : Prop where
 own : VOwn M 121 1 w (.slice a n c) n (fun i _ => v i)
 ws : ∀ i, i < n → WsV w (N i) (S i) (v i)
 one : ∀ i, (v i).oneCell' = true
theorem WlOwn.mono {M M' : Nat} {w w' : World} {a : Option Addr} {n c : Nat} {N : Nat → Nat} {S : Nat → WS} {v : Nat → Value} {B : Nat} (h : WlOwn M w a n c N S v) (hM : M' ≤ M) (hb : Below B w w') (hB : w.heap.size ≤ B) : WlOwn M' w' a n c N S v :=
 ⟨h.own.mono hM hb hB, fun i hi => (h.ws i hi).mono hb hB, h.one⟩
theorem WlOwn.at {M : Nat} {w : World} {a : Option Addr} {n c : Nat} {N : Nat → Nat} {S : Nat → WS} {v : Nat → Value} (h : WlOwn M w a n c N S v) : WlAt w a n N S := by
 intro h0
 obtain ⟨b, off, h1, _, h3, h4⟩ := h.own.vs h0
 exact ⟨b, off, h1, h3, fun i hi => ⟨v i, by have := h4 i hi 0 (by omega); rwa [Nat.mul_one] at this, h.ws i hi⟩⟩
set_option maxRecDepth 100000 in
set_option maxHeartbeats 2000000 in
theorem clone100 (M : Nat) (a : Option Addr) (n c : Nat) (v : Nat → Value) (w : World) (hn : n ≤ 1048576) (h1 : ∀ i, (v i).oneCell' = true) (h : VOwn M 121 1 w (.slice a n c) n (fun i _ => v i)) :
  Calls Tryz.prog 110 #[.slice a n c] w fun e w' => ∃ u, e = .returned u ∧ VOwn w.heap.size 121 1 w' u n (fun i _ => v i) ∧ Below w.heap.size w w' := by
 rcases h with ⟨e, hn0⟩ | ⟨g, cp, cur, e, h2, h3, h4, h5, h6, h7⟩
 ·
  simp only [Value.slice.injEq] at e
  obtain ⟨rfl, _, rfl⟩ := e
  subst hn0
  have hnil : ∀ W : World, (binOp .eql 71 (.slice none 0 0) (.slice none 0 0)).run Tryz.prog W = .ok (.bool true) W := fun W => Lib.run_eql_slice_nil W 71 121 _ 0 0 0 0 Tryz.underlying71
  go_enter Tryz.func110, Tryz.ntmps110
  go_wp2_with fail
  go_ret
  exact ⟨_, rfl, VOwn.nil _ _ _ _ _, Below.refl _ _⟩
 ·
  simp only [Value.slice.injEq, true_and] at e
  obtain ⟨rfl, rfl⟩ := e
  have hv : VOwn M 121 1 w (.slice (some ⟨g, 0, none⟩) n c) n (fun i _ => v i) := .inr ⟨g, c, cur, rfl, h2, h3, h4, h5, h6, h7⟩
  clear h2 h3 h4 h5 h6 h7
  have hnil : ∀ W : World, (binOp .eql 71 (.slice (some ⟨g, 0, none⟩) n c) (.slice none 0 0)).run Tryz.prog W = .ok (.bool false) W := fun W => Lib.run_eql_slice_nil W 71 121 _ n c 0 0 Tryz.underlying71
  obtain ⟨i1, hi1, hz1, hs1, hb1⟩ := info_parts infoState
  have B0 := bel1 w (.cells #[] 121)
  have hrow : VOwn w.heap.size 121 1 (w.alloc (.cells #[] 121)) (.slice (some ⟨w.heap.size, 0, none⟩) 0 0) 0 (fun i _ => v i) := .inr ⟨_, 0, #[], rfl, Nat.le_refl _, Box.new _ _ _, Nat.le_refl _, by simp [maxLen], rfl, fun i hi => absurd hi (Nat.not_lt_zero _)⟩
  have hv2 : VsAt 1 0 (w.alloc (.cells #[] 121)) (some ⟨g, 0, none⟩) n (fun i _ => v i) := (hv.vs.le (Nat.zero_le _)).mono nr B0 nr
  go_enter Tryz.func110, Tryz.ntmps110
  go_wp2_with (at_builtin; go_must (refine wpList_vcp _ rfl _ _ 71 rfl w.heap.size 121 i1 _ 1 16 Tryz.underlying71 hi1 hz1 hs1 hb1 rfl (by decide) (.slice (some ⟨w.heap.size, 0, none⟩) 0 0) (fun i _ => v i) rfl hrow g 0 n c (fun i _ => v i) rfl hv2 (fun i _ => h1 i) (by simp only [maxLen]; omega) (by omega) (by simp) (Halt.mk ?_)))
  intro v2 w2 o2 g2
  have HB : Hid (VOwn w.heap.size 121 1 w2 v2 n (fun i _ => v i) ∧ Below w.heap.size w w2) := ⟨o2, B0.grown g2 (by simp) (fun j hj => (hrow.lt hj).1)⟩
  clear o2 g2 hrow hv2 B0 hv
  go_wp2_with fail
  go_ret
  exact ⟨_, rfl, HB.out.1, HB.out.2⟩
theorem nilS166 (x : Value) (W : World) : (nilAhead 367 155 x "loop.example/signalbox/impl.settle").run Tryz.prog W = .ok (some false) W := by kernel_rfl
theorem methS166 (x : Value) (W : World) : (method 367 155 x "loop.example/signalbox/impl.settle").run Tryz.prog W = .ok (176, x) W := by kernel_rfl
theorem nilS168 (x : Value) (W : World) : (nilAhead 367 157 x "loop.example/signalbox/impl.settle").run Tryz.prog W = .ok (some false) W := by kernel_rfl
theorem methS168 (x : Value) (W : World) : (method 367 157 x "loop.example/signalbox/impl.settle").run Tryz.prog W = .ok (179, x) W := by kernel_rfl
theorem nilS169 (x : Value) (W : World) : (nilAhead 367 158 x "loop.example/signalbox/impl.settle").run Tryz.prog W = .ok (some false) W := by kernel_rfl
theorem methS169 (x : Value) (W : World) : (method 367 158 x "loop.example/signalbox/impl.settle").run Tryz.prog W = .ok (187, x) W := by kernel_rfl
theorem nilS171 (x : Value) (W : World) : (nilAhead 367 160 x "loop.example/signalbox/impl.settle").run Tryz.prog W = .ok (some false) W := by kernel_rfl
theorem methS171 (x : Value) (W : World) : (method 367 160 x "loop.example/signalbox/impl.settle").run Tryz.prog W = .ok (190, x) W := by kernel_rfl
theorem nilS174 (x : Value) (W : World) : (nilAhead 367 163 x "loop.example/signalbox/impl.settle").run Tryz.prog W = .ok (some false) W := by kernel_rfl
theorem methS174 (x : Value) (W : World) : (method 367 163 x "loop.example/signalbox/impl.settle").run Tryz.prog W = .ok (182, x) W := by kernel_rfl
theorem settle_any {y : Wy} {oa : Option Addr} {no oc : Nat} {O : Nat → Bool} {pa : Option Addr} {np pc : Nat} {P : Nat → Nat → Int} {w : World} {s : WS} {v : Value} (hn1 : 1 ≤ y.ns) (hg : ∀ g B sh, s = .used g B sh → g ≤ y.ns) (h : WsV w y.ns s v) :
  ∃ (T : TypeId) (x : Value) (F : Nat), ((T = 155 ∧ F = 176) ∨ (T = 157 ∧ F = 179) ∨ (T = 158 ∧ F = 187) ∨ (T = 160 ∧ F = 190) ∨ (T = 163 ∧ F = 182)) ∧ v = .iface T x ∧ (∀ W, (nilAhead 367 T x "loop.example/signalbox/impl.settle").run Tryz.prog W = .ok (some false) W) ∧ (∀ W, (method 367 T x "loop.example/signalbox/impl.settle").run Tryz.prog W = .ok (F, x) W) ∧
   ∀ (b1 b2 b3 b4 b5 : Nat) (W : World), WsV W y.ns s v → VwIn W y b1 b2 b3 b4 b5 oa no O pa np P → Calls Tryz.prog F #[x, .agg #[.slice (some ⟨b1, 0, none⟩) y.ns y.ns, .slice (some ⟨b2, 0, none⟩) y.nl y.nl, .slice (some ⟨b3, 0, none⟩) y.nf y.nf, .slice (some ⟨b4, 0, none⟩) y.no y.no, .slice (some ⟨b5, 0, none⟩) y.nm y.nm, .slice oa no oc, .slice pa np pc]] W fun e w' => SlR W y.ns (WS.settle ⟨y.ns, fun k => O (y.S k).toNat, prvB y O P⟩ s) e w' := by
 cases s with
 | idle => exact ⟨155, _, 176, .inl ⟨rfl, rfl⟩, h, nilS166 _, methS166 _, fun b1 b2 b3 b4 b5 W _ hV => idle193 y b1 b2 b3 b4 b5 oa no oc O pa np pc P W⟩
 | set sh => exact ⟨157, _, 179, .inr (.inl ⟨rfl, rfl⟩), h, nilS168 _, methS168 _, fun b1 b2 b3 b4 b5 W _ hV => set196 y b1 b2 b3 b4 b5 oa no oc O pa np pc P sh W hn1 hV⟩
 | clear => exact ⟨158, _, 187, .inr (.inr (.inl ⟨rfl, rfl⟩)), h, nilS169 _, methS169 _, fun b1 b2 b3 b4 b5 W _ hV => clear203 y b1 b2 b3 b4 b5 oa no oc O pa np pc P W hn1 hV⟩
 | taking t => exact ⟨160, _, 190, .inr (.inr (.inr (.inl ⟨rfl, rfl⟩))), h, nilS171 _, methS171 _, fun b1 b2 b3 b4 b5 W _ hV => taking206 y b1 b2 b3 b4 b5 oa no oc O pa np pc P t W hn1 hV⟩
 | used g B sh =>
  obtain ⟨rb, cap, _, rfl, _, _⟩ := h
  refine ⟨163, _, 182, .inr (.inr (.inr (.inr ⟨rfl, rfl⟩))), rfl, nilS174 _, methS174 _, fun b1 b2 b3 b4 b5 W hW hV => ?_⟩
  obtain ⟨rb', cap', _, e, _, h3⟩ := hW
  simp at e
  obtain ⟨rfl, rfl⟩ := e
  exact used199 y b1 b2 b3 b4 b5 oa no oc O pa np pc P g rb cap B sh W hn1 (hg g B sh rfl) hV h3
end Go.Proofs.YtlgapgajgpilgaaGreatDoor
