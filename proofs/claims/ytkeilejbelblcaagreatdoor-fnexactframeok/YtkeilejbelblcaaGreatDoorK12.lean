import Derived.Test.YtkeilejbelblcaaGreatDoorK11
namespace Go.Proofs.YtkeilejbelblcaaGreatDoor
open Go.RowKit Go.Lib

theorem box_set5 {w : World} {b : Nat} {T : TypeId} {z0 z1 z2 z3 z4 v0 v1 v2 v3 v4 : Value} (h : Box w b T #[z0, z1, z2, z3, z4]) : Box (((((w.setCell ⟨b, 0, none⟩ (v0)).setCell ⟨b, 1, none⟩ (v1)).setCell ⟨b, 2, none⟩ (v2)).setCell ⟨b, 3, none⟩ (v3)).setCell ⟨b, 4, none⟩ (v4)) b T #[v0, v1, v2, v3, v4] := by
  have h7 := ((((h.set 0 v0).set 1 v1).set 2 v2).set 3 v3).set 4 v4
  simpa using h7
theorem heap_set5 {w : World} {b g : Nat} {v0 v1 v2 v3 v4 : Value} (h : g ≠ b) : (((((w.setCell ⟨b, 0, none⟩ (v0)).setCell ⟨b, 1, none⟩ (v1)).setCell ⟨b, 2, none⟩ (v2)).setCell ⟨b, 3, none⟩ (v3)).setCell ⟨b, 4, none⟩ (v4)).heap[g]? = w.heap[g]? := by
  have k : ∀ (u : World) (i : Nat) (v : Value), (u.setCell ⟨b, i, none⟩ v).heap[g]? = u.heap[g]? := fun u i v => Below.heap_setCell u ⟨b, i, none⟩ v g h
  rw [k, k, k, k, k]
theorem below_set5 {M : Nat} {w0 w : World} {b : Nat} {v0 v1 v2 v3 v4 : Value} (h : Below M w0 w) (hb : M ≤ b) : Below M w0 (((((w.setCell ⟨b, 0, none⟩ (v0)).setCell ⟨b, 1, none⟩ (v1)).setCell ⟨b, 2, none⟩ (v2)).setCell ⟨b, 3, none⟩ (v3)).setCell ⟨b, 4, none⟩ (v4)) := by
  have k : ∀ {u : World} (i : Nat) (v : Value), Below M w0 u → Below M w0 (u.setCell ⟨b, i, none⟩ v) := fun i v hu => hu.setCell (show M ≤ (⟨b, i, none⟩ : Addr).block from hb) v
  exact k 4 _ (k 3 _ (k 2 _ (k 1 _ (k 0 _ h))))
/-- how a way stands, given with a list of one's own -/
def HlR (w : World) (h : Hl) (e : Ending) (w' : World) : Prop :=
  ∃ rb rc, e = .returned (.agg #[.int .i64 h.st, .int .i64 h.gone, .slice (some ⟨rb, 0, none⟩) h.nb rc, .bool h.shown, .int .i64 h.timer]) ∧ w.heap.size ≤ rb ∧ VOwn rb 4 1 w' (.slice (some ⟨rb, 0, none⟩) h.nb rc) h.nb (boolF h.B) ∧ Below w.heap.size w w'
set_option maxHeartbeats 2000000 in
theorem idleH191 (n : Nat) (w : World) (hn : n ≤ 1048576) : Calls Tryz.prog 192 #[.agg #[], .int .i64 (n : Int)] w fun e w' => HlR w (WS.held n .idle) e w' := by
  have hmk := make_rows (P := Tryz.prog) 27 4 _ 1 1 Tryz.underlying27 infoBool n (by omega) (by omega)
  simp only [Nat.mul_one] at hmk
  have HR : Hid (HlR w (WS.held n .idle) (.returned (.agg #[.int .i64 0, .int .i64 0, .slice (some ⟨w.heap.size + 1 + 1, 0, none⟩) n n, .bool false, .int .i64 0])) (((w.alloc (.cells #[] 161)).alloc (.cells #[.int .i64 0, .int .i64 0, .slice (some ⟨w.heap.size + 1 + 1, 0, none⟩) n n, .bool false, .int .i64 0] 72)).alloc (.cells (mk0 (.bool false) n) 4))) := by
    have hbx : Box (((w.alloc (.cells #[] 161)).alloc (.cells #[.int .i64 0, .int .i64 0, .slice (some ⟨w.heap.size + 1 + 1, 0, none⟩) n n, .bool false, .int .i64 0] 72)).alloc (.cells (mk0 (.bool false) n) 4)) (w.heap.size + 1 + 1) 4 (mk0 (.bool false) n) := by have := Box.new ((w.alloc (.cells #[] 161)).alloc (.cells #[.int .i64 0, .int .i64 0, .slice (some ⟨w.heap.size + 1 + 1, 0, none⟩) n n, .bool false, .int .i64 0] 72)) 4 (mk0 (.bool false) n); simpa using this
    exact ⟨_, _, rfl, by omega, VOwn.made hbx hn, bel3 w _ _ _⟩
  have BX : Box (((w.alloc (.cells #[] 161)).alloc (.cells #[.int .i64 0, .int .i64 0, .slice (some ⟨w.heap.size + 1 + 1, 0, none⟩) n n, .bool false, .int .i64 0] 72)).alloc (.cells (mk0 (.bool false) n) 4)) (w.heap.size + 1) 72 #[.int .i64 0, .int .i64 0, .slice (some ⟨w.heap.size + 1 + 1, 0, none⟩) n n, .bool false, .int .i64 0] := by have := (Box.new (w.alloc (.cells #[] 161)) 72 #[.int .i64 0, .int .i64 0, .slice (some ⟨w.heap.size + 1 + 1, 0, none⟩) n n, .bool false, .int .i64 0]).alloc (.cells (mk0 (.bool false) n) 4); simpa using this
  have d0 : (((w.alloc (.cells #[] 161)).alloc (.cells #[.int .i64 0, .int .i64 0, .slice (some ⟨w.heap.size + 1 + 1, 0, none⟩) n n, .bool false, .int .i64 0] 72)).alloc (.cells (mk0 (.bool false) n) 4)).cell? ⟨w.heap.size + 1, 0, none⟩ = some (.int .i64 0) := BX.cell 0
  have d1 : (((w.alloc (.cells #[] 161)).alloc (.cells #[.int .i64 0, .int .i64 0, .slice (some ⟨w.heap.size + 1 + 1, 0, none⟩) n n, .bool false, .int .i64 0] 72)).alloc (.cells (mk0 (.bool false) n) 4)).cell? ⟨w.heap.size + 1, 1, none⟩ = some (.int .i64 0) := BX.cell 1
  have d2 : (((w.alloc (.cells #[] 161)).alloc (.cells #[.int .i64 0, .int .i64 0, .slice (some ⟨w.heap.size + 1 + 1, 0, none⟩) n n, .bool false, .int .i64 0] 72)).alloc (.cells (mk0 (.bool false) n) 4)).cell? ⟨w.heap.size + 1, 2, none⟩ = some (.slice (some ⟨w.heap.size + 1 + 1, 0, none⟩) n n) := BX.cell 2
  have d3 : (((w.alloc (.cells #[] 161)).alloc (.cells #[.int .i64 0, .int .i64 0, .slice (some ⟨w.heap.size + 1 + 1, 0, none⟩) n n, .bool false, .int .i64 0] 72)).alloc (.cells (mk0 (.bool false) n) 4)).cell? ⟨w.heap.size + 1, 3, none⟩ = some (.bool false) := BX.cell 3
  have d4 : (((w.alloc (.cells #[] 161)).alloc (.cells #[.int .i64 0, .int .i64 0, .slice (some ⟨w.heap.size + 1 + 1, 0, none⟩) n n, .bool false, .int .i64 0] 72)).alloc (.cells (mk0 (.bool false) n) 4)).cell? ⟨w.heap.size + 1, 4, none⟩ = some (.int .i64 0) := BX.cell 4
  clear BX
  go_enter Tryz.func192, Tryz.ntmps192
  go_wp2_with fail
  exact bodyPost_ret (v := .agg #[.int .i64 0, .int .i64 0, .slice (some ⟨w.heap.size + 1 + 1, 0, none⟩) n n, .bool false, .int .i64 0]) (by simp [results, Tryz.results192, go_sem, d0, d1, d2, d3, d4]) rfl HR.out
set_option maxHeartbeats 2000000 in
theorem clearH201 (n : Nat) (w : World) (hn : n ≤ 1048576) : Calls Tryz.prog 202 #[.agg #[], .int .i64 (n : Int)] w fun e w' => HlR w (WS.held n .clear) e w' := by
  have hmk := make_rows (P := Tryz.prog) 27 4 _ 1 1 Tryz.underlying27 infoBool n (by omega) (by omega)
  simp only [Nat.mul_one] at hmk
  have HR : Hid (HlR w (WS.held n .clear) (.returned (.agg #[.int .i64 2, .int .i64 0, .slice (some ⟨w.heap.size + 1 + 1, 0, none⟩) n n, .bool true, .int .i64 0])) (((w.alloc (.cells #[] 164)).alloc (.cells #[.int .i64 2, .int .i64 0, .slice (some ⟨w.heap.size + 1 + 1, 0, none⟩) n n, .bool true, .int .i64 0] 72)).alloc (.cells (mk0 (.bool false) n) 4))) := by
    have hbx : Box (((w.alloc (.cells #[] 164)).alloc (.cells #[.int .i64 2, .int .i64 0, .slice (some ⟨w.heap.size + 1 + 1, 0, none⟩) n n, .bool true, .int .i64 0] 72)).alloc (.cells (mk0 (.bool false) n) 4)) (w.heap.size + 1 + 1) 4 (mk0 (.bool false) n) := by have := Box.new ((w.alloc (.cells #[] 164)).alloc (.cells #[.int .i64 2, .int .i64 0, .slice (some ⟨w.heap.size + 1 + 1, 0, none⟩) n n, .bool true, .int .i64 0] 72)) 4 (mk0 (.bool false) n); simpa using this
    exact ⟨_, _, rfl, by omega, VOwn.made hbx hn, bel3 w _ _ _⟩
  have BX : Box (((w.alloc (.cells #[] 164)).alloc (.cells #[.int .i64 2, .int .i64 0, .slice (some ⟨w.heap.size + 1 + 1, 0, none⟩) n n, .bool true, .int .i64 0] 72)).alloc (.cells (mk0 (.bool false) n) 4)) (w.heap.size + 1) 72 #[.int .i64 2, .int .i64 0, .slice (some ⟨w.heap.size + 1 + 1, 0, none⟩) n n, .bool true, .int .i64 0] := by have := (Box.new (w.alloc (.cells #[] 164)) 72 #[.int .i64 2, .int .i64 0, .slice (some ⟨w.heap.size + 1 + 1, 0, none⟩) n n, .bool true, .int .i64 0]).alloc (.cells (mk0 (.bool false) n) 4); simpa using this
  have d0 : (((w.alloc (.cells #[] 164)).alloc (.cells #[.int .i64 2, .int .i64 0, .slice (some ⟨w.heap.size + 1 + 1, 0, none⟩) n n, .bool true, .int .i64 0] 72)).alloc (.cells (mk0 (.bool false) n) 4)).cell? ⟨w.heap.size + 1, 0, none⟩ = some (.int .i64 2) := BX.cell 0
  have d1 : (((w.alloc (.cells #[] 164)).alloc (.cells #[.int .i64 2, .int .i64 0, .slice (some ⟨w.heap.size + 1 + 1, 0, none⟩) n n, .bool true, .int .i64 0] 72)).alloc (.cells (mk0 (.bool false) n) 4)).cell? ⟨w.heap.size + 1, 1, none⟩ = some (.int .i64 0) := BX.cell 1
  have d2 : (((w.alloc (.cells #[] 164)).alloc (.cells #[.int .i64 2, .int .i64 0, .slice (some ⟨w.heap.size + 1 + 1, 0, none⟩) n n, .bool true, .int .i64 0] 72)).alloc (.cells (mk0 (.bool false) n) 4)).cell? ⟨w.heap.size + 1, 2, none⟩ = some (.slice (some ⟨w.heap.size + 1 + 1, 0, none⟩) n n) := BX.cell 2
  have d3 : (((w.alloc (.cells #[] 164)).alloc (.cells #[.int .i64 2, .int .i64 0, .slice (some ⟨w.heap.size + 1 + 1, 0, none⟩) n n, .bool true, .int .i64 0] 72)).alloc (.cells (mk0 (.bool false) n) 4)).cell? ⟨w.heap.size + 1, 3, none⟩ = some (.bool true) := BX.cell 3
  have d4 : (((w.alloc (.cells #[] 164)).alloc (.cells #[.int .i64 2, .int .i64 0, .slice (some ⟨w.heap.size + 1 + 1, 0, none⟩) n n, .bool true, .int .i64 0] 72)).alloc (.cells (mk0 (.bool false) n) 4)).cell? ⟨w.heap.size + 1, 4, none⟩ = some (.int .i64 0) := BX.cell 4
  clear BX
  go_enter Tryz.func202, Tryz.ntmps202
  go_wp2_with fail
  exact bodyPost_ret (v := .agg #[.int .i64 2, .int .i64 0, .slice (some ⟨w.heap.size + 1 + 1, 0, none⟩) n n, .bool true, .int .i64 0]) (by simp [results, Tryz.results202, go_sem, d0, d1, d2, d3, d4]) rfl HR.out
set_option maxRecDepth 100000 in
set_option maxHeartbeats 4000000 in
theorem setH194 (sh : Bool) (n : Nat) (w : World) (hn : n ≤ 1048576) : Calls Tryz.prog 195 #[.agg #[.bool sh], .int .i64 (n : Int)] w fun e w' => HlR w (WS.held n (.set sh)) e w' := by
  have hmk := make_rows (P := Tryz.prog) 27 4 _ 1 1 Tryz.underlying27 infoBool n (by omega) (by omega)
  simp only [Nat.mul_one] at hmk
  have SX : Hid (Below w.heap.size w ((w.alloc (.cells #[.bool sh] 163)).alloc (.cells #[.int .i64 0, .int .i64 0, .slice none 0 0, .bool false, .int .i64 0] 72)) ∧ Box ((w.alloc (.cells #[.bool sh] 163)).alloc (.cells #[.int .i64 0, .int .i64 0, .slice none 0 0, .bool false, .int .i64 0] 72)) w.heap.size 163 #[.bool sh] ∧ Box ((w.alloc (.cells #[.bool sh] 163)).alloc (.cells #[.int .i64 0, .int .i64 0, .slice none 0 0, .bool false, .int .i64 0] 72)) (w.heap.size + 1) 72 #[.int .i64 0, .int .i64 0, .slice none 0 0, .bool false, .int .i64 0]) := ⟨bel2 _ _ _, (Box.new _ _ _).alloc _, by have := Box.new (w.alloc (.cells #[.bool sh] 163)) 72 #[.int .i64 0, .int .i64 0, .slice none 0 0, .bool false, .int .i64 0]; simpa using this⟩
  have hsz : ((w.alloc (.cells #[.bool sh] 163)).alloc (.cells #[.int .i64 0, .int .i64 0, .slice none 0 0, .bool false, .int .i64 0] 72)).heap.size = w.heap.size + 1 + 1 := by simp
  go_enter Tryz.func195, Tryz.ntmps195
  go_wp2_with fail
  generalize ((w.alloc (.cells #[.bool sh] 163)).alloc (.cells #[.int .i64 0, .int .i64 0, .slice none 0 0, .bool false, .int .i64 0] 72)) = W at *
  have u0 : W.cell? ⟨w.heap.size, 0, none⟩ = some (.bool sh) := SX.out.2.1.cell 0
  have SY : Hid (Below w.heap.size w (W.alloc (.cells (mk0 (.bool false) n) 4)) ∧ Box (W.alloc (.cells (mk0 (.bool false) n) 4)) w.heap.size 163 #[.bool sh] ∧ Box (W.alloc (.cells (mk0 (.bool false) n) 4)) (w.heap.size + 1) 72 #[.int .i64 0, .int .i64 0, .slice none 0 0, .bool false, .int .i64 0] ∧ Box (W.alloc (.cells (mk0 (.bool false) n) 4)) (w.heap.size + 1 + 1) 4 (mk0 (.bool false) n)) := ⟨SX.out.1.alloc SX.out.1.size _, SX.out.2.1.alloc _, SX.out.2.2.alloc _, by rw [← hsz]; exact Box.new _ _ _⟩
  have q0 : (W.alloc (.cells (mk0 (.bool false) n) 4)).cell? ⟨w.heap.size + 1, 0, none⟩ = some (.int .i64 0) := SY.out.2.2.1.cell 0
  have g0 := SY.out.2.2.1.free 0
  have q1 : (W.alloc (.cells (mk0 (.bool false) n) 4)).cell? ⟨w.heap.size + 1, 1, none⟩ = some (.int .i64 0) := SY.out.2.2.1.cell 1
  have g1 := SY.out.2.2.1.free 1
  have q2 : (W.alloc (.cells (mk0 (.bool false) n) 4)).cell? ⟨w.heap.size + 1, 2, none⟩ = some (.slice none 0 0) := SY.out.2.2.1.cell 2
  have g2 := SY.out.2.2.1.free 2
  have q3 : (W.alloc (.cells (mk0 (.bool false) n) 4)).cell? ⟨w.heap.size + 1, 3, none⟩ = some (.bool false) := SY.out.2.2.1.cell 3
  have g3 := SY.out.2.2.1.free 3
  have q4 : (W.alloc (.cells (mk0 (.bool false) n) 4)).cell? ⟨w.heap.size + 1, 4, none⟩ = some (.int .i64 0) := SY.out.2.2.1.cell 4
  have g4 := SY.out.2.2.1.free 4
  refine wp_region_held_drew (S := (fun wx : World => wx.cell? ⟨w.heap.size, 0, none⟩ = some (.bool sh))) (by kernel_rfl) ?_ (fun hHeld => ?_)
  · exact u0
  refine take_lit (i := 0) (v := ?vr1x0) rfl (by kernel_rfl) (by kernel_rfl) (by kernel_rfl) (fun _ _ _ h => h) (Or.inl ⟨by rfl, ?hyr1x0⟩) (by assumption) ?restr1x0
  case hyr1x0 => (intro wq hSw; (try dsimp only at hSw); go_simp; try with_reducible rfl)
  simp only [Act.put, List.setIfInBounds_toArray, List.set_cons_zero, List.set_cons_succ]
  refine take_lit (i := 2) (v := ?vr1x2) rfl (by kernel_rfl) (by kernel_rfl) (by kernel_rfl) (fun _ _ _ h => h) (Or.inl ⟨by rfl, ?hyr1x2⟩) (by assumption) ?restr1x2
  case hyr1x2 => (intro wq hSw; (try dsimp only at hSw); go_simp; try with_reducible rfl)
  simp only [Act.put, List.setIfInBounds_toArray, List.set_cons_zero, List.set_cons_succ]
  refine take_lit (i := 3) (v := ?vr1x3) rfl (by kernel_rfl) (by kernel_rfl) (by kernel_rfl) (fun _ _ _ h => h) (Or.inl ⟨by rfl, ?hyr1x3⟩) (by assumption) ?restr1x3
  case hyr1x3 => (intro wq hSw; (try dsimp only at hSw); go_simp; try with_reducible rfl)
  simp only [Act.put, List.setIfInBounds_toArray, List.set_cons_zero, List.set_cons_succ]
  refine ready_lit (i := 1) (by kernel_rfl) rfl (fun K hK => ?_)
  go_wp2_with fail
  refine hK.out _ _ ?_ (fun hHeld1 => ?_)
  · exact SY.out.2.1.cell 0
  clear hK K
  generalize (W.alloc (.cells (mk0 (.bool false) n) 4)) = V at *
  have HF : Hid (Below w.heap.size w (((((V.setCell ⟨w.heap.size + 1, 0, none⟩ (.int .i64 1)).setCell ⟨w.heap.size + 1, 1, none⟩ (.int .i64 0)).setCell ⟨w.heap.size + 1, 2, none⟩ (.slice (some ⟨w.heap.size + 1 + 1, 0, none⟩) n n)).setCell ⟨w.heap.size + 1, 3, none⟩ (.bool sh)).setCell ⟨w.heap.size + 1, 4, none⟩ (.int .i64 0)).drew ∧ Box (((((V.setCell ⟨w.heap.size + 1, 0, none⟩ (.int .i64 1)).setCell ⟨w.heap.size + 1, 1, none⟩ (.int .i64 0)).setCell ⟨w.heap.size + 1, 2, none⟩ (.slice (some ⟨w.heap.size + 1 + 1, 0, none⟩) n n)).setCell ⟨w.heap.size + 1, 3, none⟩ (.bool sh)).setCell ⟨w.heap.size + 1, 4, none⟩ (.int .i64 0)).drew (w.heap.size + 1) 72 #[.int .i64 1, .int .i64 0, .slice (some ⟨w.heap.size + 1 + 1, 0, none⟩) n n, .bool sh, .int .i64 0] ∧ Box (((((V.setCell ⟨w.heap.size + 1, 0, none⟩ (.int .i64 1)).setCell ⟨w.heap.size + 1, 1, none⟩ (.int .i64 0)).setCell ⟨w.heap.size + 1, 2, none⟩ (.slice (some ⟨w.heap.size + 1 + 1, 0, none⟩) n n)).setCell ⟨w.heap.size + 1, 3, none⟩ (.bool sh)).setCell ⟨w.heap.size + 1, 4, none⟩ (.int .i64 0)).drew w.heap.size 163 #[.bool sh] ∧ Box (((((V.setCell ⟨w.heap.size + 1, 0, none⟩ (.int .i64 1)).setCell ⟨w.heap.size + 1, 1, none⟩ (.int .i64 0)).setCell ⟨w.heap.size + 1, 2, none⟩ (.slice (some ⟨w.heap.size + 1 + 1, 0, none⟩) n n)).setCell ⟨w.heap.size + 1, 3, none⟩ (.bool sh)).setCell ⟨w.heap.size + 1, 4, none⟩ (.int .i64 0)).drew (w.heap.size + 1 + 1) 4 (mk0 (.bool false) n)) := ⟨(below_set5 SY.out.1 (by omega)).drew, (box_set5 SY.out.2.2.1).drew, (SY.out.2.1.keep (heap_set5 (by omega))).drew, (SY.out.2.2.2.keep (heap_set5 (by omega))).drew⟩
  refine take_lit (i := 4) (v := ?vr1x4) rfl (by kernel_rfl) (by kernel_rfl) (by kernel_rfl) (fun _ _ _ h => h) (Or.inl ⟨by rfl, ?hyr1x4⟩) (by assumption) ?restr1x4
  case hyr1x4 => (intro wq hSw; (try dsimp only at hSw); go_simp; try with_reducible rfl)
  simp only [Act.put, List.setIfInBounds_toArray, List.set_cons_zero, List.set_cons_succ]
  refine ready_lit (i := 5) (by kernel_rfl) rfl (fun K hK => ?_)
  go_simp
  refine hK.out _ _ ?_ (fun hHeld5 => ?_)
  · exact HF.out.2.2.1.cell 0
  clear hK K
  refine wpAnyH_done (by kernel_rfl) ?_ _
  generalize (((((V.setCell ⟨w.heap.size + 1, 0, none⟩ (.int .i64 1)).setCell ⟨w.heap.size + 1, 1, none⟩ (.int .i64 0)).setCell ⟨w.heap.size + 1, 2, none⟩ (.slice (some ⟨w.heap.size + 1 + 1, 0, none⟩) n n)).setCell ⟨w.heap.size + 1, 3, none⟩ (.bool sh)).setCell ⟨w.heap.size + 1, 4, none⟩ (.int .i64 0)).drew = W9 at *
  have d0 : W9.cell? ⟨w.heap.size + 1, 0, none⟩ = some (.int .i64 1) := HF.out.2.1.cell 0
  have d1 : W9.cell? ⟨w.heap.size + 1, 1, none⟩ = some (.int .i64 0) := HF.out.2.1.cell 1
  have d2 : W9.cell? ⟨w.heap.size + 1, 2, none⟩ = some (.slice (some ⟨w.heap.size + 1 + 1, 0, none⟩) n n) := HF.out.2.1.cell 2
  have d3 : W9.cell? ⟨w.heap.size + 1, 3, none⟩ = some (.bool sh) := HF.out.2.1.cell 3
  have d4 : W9.cell? ⟨w.heap.size + 1, 4, none⟩ = some (.int .i64 0) := HF.out.2.1.cell 4
  have HR : Hid (HlR w (WS.held n (.set sh)) (.returned (.agg #[.int .i64 1, .int .i64 0, .slice (some ⟨w.heap.size + 1 + 1, 0, none⟩) n n, .bool sh, .int .i64 0])) W9) := ⟨w.heap.size + 1 + 1, n, rfl, by omega, VOwn.made HF.out.2.2.2 hn, HF.out.1⟩
  go_wp2_with fail
  exact bodyPost_ret (v := .agg #[.int .i64 1, .int .i64 0, .slice (some ⟨w.heap.size + 1 + 1, 0, none⟩) n n, .bool sh, .int .i64 0]) (by simp [results, Tryz.results195, go_sem, d0, d1, d2, d3, d4]) rfl HR.out
set_option maxRecDepth 100000 in
set_option maxHeartbeats 4000000 in
theorem takingH204 (t : Int) (n : Nat) (w : World) (hn : n ≤ 1048576) : Calls Tryz.prog 205 #[.agg #[.int .i64 t], .int .i64 (n : Int)] w fun e w' => HlR w (WS.held n (.taking t)) e w' := by
  have hmk := make_rows (P := Tryz.prog) 27 4 _ 1 1 Tryz.underlying27 infoBool n (by omega) (by omega)
  simp only [Nat.mul_one] at hmk
  have SX : Hid (Below w.heap.size w ((w.alloc (.cells #[.int .i64 t] 166)).alloc (.cells #[.int .i64 0, .int .i64 0, .slice none 0 0, .bool false, .int .i64 0] 72)) ∧ Box ((w.alloc (.cells #[.int .i64 t] 166)).alloc (.cells #[.int .i64 0, .int .i64 0, .slice none 0 0, .bool false, .int .i64 0] 72)) w.heap.size 166 #[.int .i64 t] ∧ Box ((w.alloc (.cells #[.int .i64 t] 166)).alloc (.cells #[.int .i64 0, .int .i64 0, .slice none 0 0, .bool false, .int .i64 0] 72)) (w.heap.size + 1) 72 #[.int .i64 0, .int .i64 0, .slice none 0 0, .bool false, .int .i64 0]) := ⟨bel2 _ _ _, (Box.new _ _ _).alloc _, by have := Box.new (w.alloc (.cells #[.int .i64 t] 166)) 72 #[.int .i64 0, .int .i64 0, .slice none 0 0, .bool false, .int .i64 0]; simpa using this⟩
  have hsz : ((w.alloc (.cells #[.int .i64 t] 166)).alloc (.cells #[.int .i64 0, .int .i64 0, .slice none 0 0, .bool false, .int .i64 0] 72)).heap.size = w.heap.size + 1 + 1 := by simp
  go_enter Tryz.func205, Tryz.ntmps205
  go_wp2_with fail
  generalize ((w.alloc (.cells #[.int .i64 t] 166)).alloc (.cells #[.int .i64 0, .int .i64 0, .slice none 0 0, .bool false, .int .i64 0] 72)) = W at *
  have u0 : W.cell? ⟨w.heap.size, 0, none⟩ = some (.int .i64 t) := SX.out.2.1.cell 0
  have SY : Hid (Below w.heap.size w (W.alloc (.cells (mk0 (.bool false) n) 4)) ∧ Box (W.alloc (.cells (mk0 (.bool false) n) 4)) w.heap.size 166 #[.int .i64 t] ∧ Box (W.alloc (.cells (mk0 (.bool false) n) 4)) (w.heap.size + 1) 72 #[.int .i64 0, .int .i64 0, .slice none 0 0, .bool false, .int .i64 0] ∧ Box (W.alloc (.cells (mk0 (.bool false) n) 4)) (w.heap.size + 1 + 1) 4 (mk0 (.bool false) n)) := ⟨SX.out.1.alloc SX.out.1.size _, SX.out.2.1.alloc _, SX.out.2.2.alloc _, by rw [← hsz]; exact Box.new _ _ _⟩
  have q0 : (W.alloc (.cells (mk0 (.bool false) n) 4)).cell? ⟨w.heap.size + 1, 0, none⟩ = some (.int .i64 0) := SY.out.2.2.1.cell 0
  have g0 := SY.out.2.2.1.free 0
  have q1 : (W.alloc (.cells (mk0 (.bool false) n) 4)).cell? ⟨w.heap.size + 1, 1, none⟩ = some (.int .i64 0) := SY.out.2.2.1.cell 1
  have g1 := SY.out.2.2.1.free 1
  have q2 : (W.alloc (.cells (mk0 (.bool false) n) 4)).cell? ⟨w.heap.size + 1, 2, none⟩ = some (.slice none 0 0) := SY.out.2.2.1.cell 2
  have g2 := SY.out.2.2.1.free 2
  have q3 : (W.alloc (.cells (mk0 (.bool false) n) 4)).cell? ⟨w.heap.size + 1, 3, none⟩ = some (.bool false) := SY.out.2.2.1.cell 3
  have g3 := SY.out.2.2.1.free 3
  have q4 : (W.alloc (.cells (mk0 (.bool false) n) 4)).cell? ⟨w.heap.size + 1, 4, none⟩ = some (.int .i64 0) := SY.out.2.2.1.cell 4
  have g4 := SY.out.2.2.1.free 4
  refine wp_region_held_drew (S := (fun wx : World => wx.cell? ⟨w.heap.size, 0, none⟩ = some (.int .i64 t))) (by kernel_rfl) ?_ (fun hHeld => ?_)
  · exact u0
  refine take_lit (i := 0) (v := ?vr2x0) rfl (by kernel_rfl) (by kernel_rfl) (by kernel_rfl) (fun _ _ _ h => h) (Or.inl ⟨by rfl, ?hyr2x0⟩) (by assumption) ?restr2x0
  case hyr2x0 => (intro wq hSw; (try dsimp only at hSw); go_simp; try with_reducible rfl)
  simp only [Act.put, List.setIfInBounds_toArray, List.set_cons_zero, List.set_cons_succ]
  refine take_lit (i := 2) (v := ?vr2x2) rfl (by kernel_rfl) (by kernel_rfl) (by kernel_rfl) (fun _ _ _ h => h) (Or.inl ⟨by rfl, ?hyr2x2⟩) (by assumption) ?restr2x2
  case hyr2x2 => (intro wq hSw; (try dsimp only at hSw); go_simp; try with_reducible rfl)
  simp only [Act.put, List.setIfInBounds_toArray, List.set_cons_zero, List.set_cons_succ]
  refine take_lit (i := 3) (v := ?vr2x3) rfl (by kernel_rfl) (by kernel_rfl) (by kernel_rfl) (fun _ _ _ h => h) (Or.inl ⟨by rfl, ?hyr2x3⟩) (by assumption) ?restr2x3
  case hyr2x3 => (intro wq hSw; (try dsimp only at hSw); go_simp; try with_reducible rfl)
  simp only [Act.put, List.setIfInBounds_toArray, List.set_cons_zero, List.set_cons_succ]
  refine ready_lit (i := 1) (by kernel_rfl) rfl (fun K hK => ?_)
  go_wp2_with fail
  refine hK.out _ _ ?_ (fun hHeld1 => ?_)
  · exact SY.out.2.1.cell 0
  clear hK K
  generalize (W.alloc (.cells (mk0 (.bool false) n) 4)) = V at *
  have HF : Hid (Below w.heap.size w (((((V.setCell ⟨w.heap.size + 1, 0, none⟩ (.int .i64 3)).setCell ⟨w.heap.size + 1, 1, none⟩ (.int .i64 0)).setCell ⟨w.heap.size + 1, 2, none⟩ (.slice (some ⟨w.heap.size + 1 + 1, 0, none⟩) n n)).setCell ⟨w.heap.size + 1, 3, none⟩ (.bool true)).setCell ⟨w.heap.size + 1, 4, none⟩ (.int .i64 t)).drew ∧ Box (((((V.setCell ⟨w.heap.size + 1, 0, none⟩ (.int .i64 3)).setCell ⟨w.heap.size + 1, 1, none⟩ (.int .i64 0)).setCell ⟨w.heap.size + 1, 2, none⟩ (.slice (some ⟨w.heap.size + 1 + 1, 0, none⟩) n n)).setCell ⟨w.heap.size + 1, 3, none⟩ (.bool true)).setCell ⟨w.heap.size + 1, 4, none⟩ (.int .i64 t)).drew (w.heap.size + 1) 72 #[.int .i64 3, .int .i64 0, .slice (some ⟨w.heap.size + 1 + 1, 0, none⟩) n n, .bool true, .int .i64 t] ∧ Box (((((V.setCell ⟨w.heap.size + 1, 0, none⟩ (.int .i64 3)).setCell ⟨w.heap.size + 1, 1, none⟩ (.int .i64 0)).setCell ⟨w.heap.size + 1, 2, none⟩ (.slice (some ⟨w.heap.size + 1 + 1, 0, none⟩) n n)).setCell ⟨w.heap.size + 1, 3, none⟩ (.bool true)).setCell ⟨w.heap.size + 1, 4, none⟩ (.int .i64 t)).drew w.heap.size 166 #[.int .i64 t] ∧ Box (((((V.setCell ⟨w.heap.size + 1, 0, none⟩ (.int .i64 3)).setCell ⟨w.heap.size + 1, 1, none⟩ (.int .i64 0)).setCell ⟨w.heap.size + 1, 2, none⟩ (.slice (some ⟨w.heap.size + 1 + 1, 0, none⟩) n n)).setCell ⟨w.heap.size + 1, 3, none⟩ (.bool true)).setCell ⟨w.heap.size + 1, 4, none⟩ (.int .i64 t)).drew (w.heap.size + 1 + 1) 4 (mk0 (.bool false) n)) := ⟨(below_set5 SY.out.1 (by omega)).drew, (box_set5 SY.out.2.2.1).drew, (SY.out.2.1.keep (heap_set5 (by omega))).drew, (SY.out.2.2.2.keep (heap_set5 (by omega))).drew⟩
  refine take_lit (i := 4) (v := ?vr2x4) rfl (by kernel_rfl) (by kernel_rfl) (by kernel_rfl) (fun _ _ _ h => h) (Or.inl ⟨by rfl, ?hyr2x4⟩) (by assumption) ?restr2x4
  case hyr2x4 => (intro wq hSw; (try dsimp only at hSw); go_simp; try with_reducible rfl)
  simp only [Act.put, List.setIfInBounds_toArray, List.set_cons_zero, List.set_cons_succ]
  refine ready_lit (i := 5) (by kernel_rfl) rfl (fun K hK => ?_)
  go_simp
  refine hK.out _ _ ?_ (fun hHeld5 => ?_)
  · exact HF.out.2.2.1.cell 0
  clear hK K
  refine wpAnyH_done (by kernel_rfl) ?_ _
  generalize (((((V.setCell ⟨w.heap.size + 1, 0, none⟩ (.int .i64 3)).setCell ⟨w.heap.size + 1, 1, none⟩ (.int .i64 0)).setCell ⟨w.heap.size + 1, 2, none⟩ (.slice (some ⟨w.heap.size + 1 + 1, 0, none⟩) n n)).setCell ⟨w.heap.size + 1, 3, none⟩ (.bool true)).setCell ⟨w.heap.size + 1, 4, none⟩ (.int .i64 t)).drew = W9 at *
  have d0 : W9.cell? ⟨w.heap.size + 1, 0, none⟩ = some (.int .i64 3) := HF.out.2.1.cell 0
  have d1 : W9.cell? ⟨w.heap.size + 1, 1, none⟩ = some (.int .i64 0) := HF.out.2.1.cell 1
  have d2 : W9.cell? ⟨w.heap.size + 1, 2, none⟩ = some (.slice (some ⟨w.heap.size + 1 + 1, 0, none⟩) n n) := HF.out.2.1.cell 2
  have d3 : W9.cell? ⟨w.heap.size + 1, 3, none⟩ = some (.bool true) := HF.out.2.1.cell 3
  have d4 : W9.cell? ⟨w.heap.size + 1, 4, none⟩ = some (.int .i64 t) := HF.out.2.1.cell 4
  have HR : Hid (HlR w (WS.held n (.taking t)) (.returned (.agg #[.int .i64 3, .int .i64 0, .slice (some ⟨w.heap.size + 1 + 1, 0, none⟩) n n, .bool true, .int .i64 t])) W9) := ⟨w.heap.size + 1 + 1, n, rfl, by omega, VOwn.made HF.out.2.2.2 hn, HF.out.1⟩
  go_wp2_with fail
  exact bodyPost_ret (v := .agg #[.int .i64 3, .int .i64 0, .slice (some ⟨w.heap.size + 1 + 1, 0, none⟩) n n, .bool true, .int .i64 t]) (by simp [results, Tryz.results205, go_sem, d0, d1, d2, d3, d4]) rfl HR.out

end Go.Proofs.YtkeilejbelblcaaGreatDoor
