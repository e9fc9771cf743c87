import Derived.Test.YtkeilejbelblcaaGreatDoorK12
namespace Go.Proofs.YtkeilejbelblcaaGreatDoor
open Go.RowKit Go.Lib

theorem VOwn.up {B : Nat} {e : TypeId} {c : Nat} {w : World} {g n cap : Nat} {F : Nat → Nat → Value} (h : VOwn B e c w (.slice (some ⟨g, 0, none⟩) n cap) n F) : VOwn g e c w (.slice (some ⟨g, 0, none⟩) n cap) n F := by
  rcases h with ⟨h1, _⟩ | ⟨g', cp, cur, h1, _, h3, h4⟩
  · cases h1
  · simp only [Value.slice.injEq, Option.some.injEq, Addr.mk.injEq, and_true, true_and] at h1
    obtain ⟨rfl, rfl⟩ := h1
    exact .inr ⟨g, cap, cur, rfl, Nat.le_refl _, h3, h4⟩
set_option maxRecDepth 100000 in
set_option maxHeartbeats 4000000 in
theorem usedH207 (g rb n cap : Nat) (B : Nat → Bool) (sh : Bool) (m : Int) (w : World) (hn1 : 1 ≤ n) (hn : n ≤ 1048576) (hB : VsAt 1 0 w (some ⟨rb, 0, none⟩) n (boolF B)) :
    Calls Tryz.prog 208 #[.agg #[.int .i64 (g : Int), .slice (some ⟨rb, 0, none⟩) n cap, .bool sh], .int .i64 m] w fun e w' => HlR w (WS.held n (.used g B sh)) e w' := by
  have SX : Hid (Below w.heap.size w ((w.alloc (.cells #[.int .i64 (g : Int), .slice (some ⟨rb, 0, none⟩) n cap, .bool sh] 169)).alloc (.cells #[.int .i64 0, .int .i64 0, .slice none 0 0, .bool false, .int .i64 0] 72)) ∧ Box ((w.alloc (.cells #[.int .i64 (g : Int), .slice (some ⟨rb, 0, none⟩) n cap, .bool sh] 169)).alloc (.cells #[.int .i64 0, .int .i64 0, .slice none 0 0, .bool false, .int .i64 0] 72)) w.heap.size 169 #[.int .i64 (g : Int), .slice (some ⟨rb, 0, none⟩) n cap, .bool sh] ∧ Box ((w.alloc (.cells #[.int .i64 (g : Int), .slice (some ⟨rb, 0, none⟩) n cap, .bool sh] 169)).alloc (.cells #[.int .i64 0, .int .i64 0, .slice none 0 0, .bool false, .int .i64 0] 72)) (w.heap.size + 1) 72 #[.int .i64 0, .int .i64 0, .slice none 0 0, .bool false, .int .i64 0]) := ⟨bel2 _ _ _, (Box.new _ _ _).alloc _, by have := Box.new (w.alloc (.cells #[.int .i64 (g : Int), .slice (some ⟨rb, 0, none⟩) n cap, .bool sh] 169)) 72 #[.int .i64 0, .int .i64 0, .slice none 0 0, .bool false, .int .i64 0]; simpa using this⟩
  have HB : Hid (VsAt 1 0 w (some ⟨rb, 0, none⟩) n (boolF B)) := hB
  clear hB
  go_enter Tryz.func208, Tryz.ntmps208
  go_wp2_with fail
  generalize ((w.alloc (.cells #[.int .i64 (g : Int), .slice (some ⟨rb, 0, none⟩) n cap, .bool sh] 169)).alloc (.cells #[.int .i64 0, .int .i64 0, .slice none 0 0, .bool false, .int .i64 0] 72)) = W at *
  have u0 : W.cell? ⟨w.heap.size, 0, none⟩ = some (.int .i64 (g : Int)) := SX.out.2.1.cell 0
  have u1 : W.cell? ⟨w.heap.size, 1, none⟩ = some (.slice (some ⟨rb, 0, none⟩) n cap) := SX.out.2.1.cell 1
  have u2 : W.cell? ⟨w.heap.size, 2, none⟩ = some (.bool sh) := SX.out.2.1.cell 2
  have hszW : w.heap.size + 1 < W.heap.size := SX.out.2.2.lt
  refine wp_region_held_drew (S := (fun wx : World => wx.cell? ⟨w.heap.size, 0, none⟩ = some (.int .i64 (g : Int)) ∧ wx.cell? ⟨w.heap.size, 1, none⟩ = some (.slice (some ⟨rb, 0, none⟩) n cap) ∧ wx.cell? ⟨w.heap.size, 2, none⟩ = some (.bool sh))) (by kernel_rfl) ?_ (fun hHeld => ?_)
  · exact ⟨u0, u1, u2⟩
  refine take_lit (i := 0) (v := ?vr1x0) rfl (by kernel_rfl) (by kernel_rfl) (by kernel_rfl) (fun _ _ _ h => h) (Or.inl ⟨by rfl, ?hyr1x0⟩) (by assumption) ?restr1x0
  case hyr1x0 => (intro wq hSw; (try dsimp only at hSw); go_simp; try with_reducible rfl)
  simp only [Act.put, List.setIfInBounds_toArray, List.set_cons_zero, List.set_cons_succ]
  refine take_lit (i := 1) (v := ?vr1x1) rfl (by kernel_rfl) (by kernel_rfl) (by kernel_rfl) (fun _ _ _ h => h) (Or.inl ⟨by rfl, ?hyr1x1⟩) (by assumption) ?restr1x1
  case hyr1x1 => (intro wq hSw; (try dsimp only at hSw); go_simp; try with_reducible rfl)
  simp only [Act.put, List.setIfInBounds_toArray, List.set_cons_zero, List.set_cons_succ]
  refine take_lit (i := 2) (v := ?vr1x2) rfl (by kernel_rfl) (by kernel_rfl) (by kernel_rfl) (fun _ _ _ h => h) (Or.inl ⟨by rfl, ?hyr1x2⟩) (by assumption) ?restr1x2
  case hyr1x2 => (intro wq hSw; (try dsimp only at hSw); go_simp; try with_reducible rfl)
  simp only [Act.put, List.setIfInBounds_toArray, List.set_cons_zero, List.set_cons_succ]
  refine take_lit (i := 3) (v := ?vr1x3) rfl (by kernel_rfl) (by kernel_rfl) (by kernel_rfl) (fun _ _ _ h => h) (Or.inl ⟨by rfl, ?hyr1x3⟩) (by assumption) ?restr1x3
  case hyr1x3 => (intro wq hSw; (try dsimp only at hSw); go_simp; try with_reducible rfl)
  simp only [Act.put, List.setIfInBounds_toArray, List.set_cons_zero, List.set_cons_succ]
  refine take_lit (i := 5) (v := ?vr1x5) rfl (by kernel_rfl) (by kernel_rfl) (by kernel_rfl) (fun _ _ _ h => h) (Or.inl ⟨by rfl, ?hyr1x5⟩) (by assumption) ?restr1x5
  case hyr1x5 => (intro wq hSw; (try dsimp only at hSw); go_simp; try with_reducible rfl)
  simp only [Act.put, List.setIfInBounds_toArray, List.set_cons_zero, List.set_cons_succ]
  refine take_lit (i := 6) (v := ?vr1x6) rfl (by kernel_rfl) (by kernel_rfl) (by kernel_rfl) (fun _ _ _ h => h) (Or.inl ⟨by rfl, ?hyr1x6⟩) (by assumption) ?restr1x6
  case hyr1x6 => (intro wq hSw; (try dsimp only at hSw); go_simp; try with_reducible rfl)
  simp only [Act.put, List.setIfInBounds_toArray, List.set_cons_zero, List.set_cons_succ]
  refine ready_lit (i := 4) (by kernel_rfl) rfl (fun K hK => ?_)
  go_simp
  go_at_call 135
  refine (clone123 rb 0 n cap B _ hn (HB.out.mono (Nat.le_refl _) SX.out.1.drew (Nat.le_refl _))).mono ?_
  rintro e w1 ⟨v, rfl, hv, hb1⟩
  obtain ⟨va, nc, rfl⟩ := hv.val
  obtain ⟨nb, rfl, hnb, hnl⟩ := hv.addr (by omega)
  have SY : Hid (Below w.heap.size w w1 ∧ Box w1 w.heap.size 169 #[.int .i64 (g : Int), .slice (some ⟨rb, 0, none⟩) n cap, .bool sh] ∧ Box w1 (w.heap.size + 1) 72 #[.int .i64 0, .int .i64 0, .slice none 0 0, .bool false, .int .i64 0] ∧ VOwn nb 4 1 w1 (.slice (some ⟨nb, 0, none⟩) n nc) n (boolF B) ∧ w.heap.size + 1 < nb) := ⟨SX.out.1.drew.trans (hb1.mono SX.out.1.drew.size), SX.out.2.1.drew.mono hb1 (Nat.le_refl _), SX.out.2.2.drew.mono hb1 (Nat.le_refl _), VOwn.up hv, Nat.lt_of_lt_of_le hszW hnb⟩
  go_wp2_with fail
  refine hK.out _ _ ?_ (fun hHeld4 => ?_)
  · exact ⟨SY.out.2.1.cell 0, SY.out.2.1.cell 1, SY.out.2.1.cell 2⟩
  clear hK K
  clear hv hb1
  have q0 : w1.cell? ⟨w.heap.size + 1, 0, none⟩ = some (.int .i64 0) := SY.out.2.2.1.cell 0
  have q1 : w1.cell? ⟨w.heap.size + 1, 1, none⟩ = some (.int .i64 0) := SY.out.2.2.1.cell 1
  have q2 : w1.cell? ⟨w.heap.size + 1, 2, none⟩ = some (.slice none 0 0) := SY.out.2.2.1.cell 2
  have q3 : w1.cell? ⟨w.heap.size + 1, 3, none⟩ = some (.bool false) := SY.out.2.2.1.cell 3
  have q4 : w1.cell? ⟨w.heap.size + 1, 4, none⟩ = some (.int .i64 0) := SY.out.2.2.1.cell 4
  have g0 := SY.out.2.2.1.free 0
  have g1 := SY.out.2.2.1.free 1
  have g2 := SY.out.2.2.1.free 2
  have g3 := SY.out.2.2.1.free 3
  have g4 := SY.out.2.2.1.free 4
  have HF : Hid (Below w.heap.size w (((((w1.setCell ⟨w.heap.size + 1, 0, none⟩ (.int .i64 4)).setCell ⟨w.heap.size + 1, 1, none⟩ (.int .i64 (g : Int))).setCell ⟨w.heap.size + 1, 2, none⟩ (.slice (some ⟨nb, 0, none⟩) n nc)).setCell ⟨w.heap.size + 1, 3, none⟩ (.bool sh)).setCell ⟨w.heap.size + 1, 4, none⟩ (.int .i64 0)) ∧ Box (((((w1.setCell ⟨w.heap.size + 1, 0, none⟩ (.int .i64 4)).setCell ⟨w.heap.size + 1, 1, none⟩ (.int .i64 (g : Int))).setCell ⟨w.heap.size + 1, 2, none⟩ (.slice (some ⟨nb, 0, none⟩) n nc)).setCell ⟨w.heap.size + 1, 3, none⟩ (.bool sh)).setCell ⟨w.heap.size + 1, 4, none⟩ (.int .i64 0)) (w.heap.size + 1) 72 #[.int .i64 4, .int .i64 (g : Int), .slice (some ⟨nb, 0, none⟩) n nc, .bool sh, .int .i64 0] ∧ Box (((((w1.setCell ⟨w.heap.size + 1, 0, none⟩ (.int .i64 4)).setCell ⟨w.heap.size + 1, 1, none⟩ (.int .i64 (g : Int))).setCell ⟨w.heap.size + 1, 2, none⟩ (.slice (some ⟨nb, 0, none⟩) n nc)).setCell ⟨w.heap.size + 1, 3, none⟩ (.bool sh)).setCell ⟨w.heap.size + 1, 4, none⟩ (.int .i64 0)) w.heap.size 169 #[.int .i64 (g : Int), .slice (some ⟨rb, 0, none⟩) n cap, .bool sh] ∧ VOwn nb 4 1 (((((w1.setCell ⟨w.heap.size + 1, 0, none⟩ (.int .i64 4)).setCell ⟨w.heap.size + 1, 1, none⟩ (.int .i64 (g : Int))).setCell ⟨w.heap.size + 1, 2, none⟩ (.slice (some ⟨nb, 0, none⟩) n nc)).setCell ⟨w.heap.size + 1, 3, none⟩ (.bool sh)).setCell ⟨w.heap.size + 1, 4, none⟩ (.int .i64 0)) (.slice (some ⟨nb, 0, none⟩) n nc) n (boolF B)) := ⟨below_set5 SY.out.1 (by omega), box_set5 SY.out.2.2.1, SY.out.2.1.keep (heap_set5 (by omega)), SY.out.2.2.2.1.keep (Nat.le_refl _) fun x hx => heap_set5 (by have := own_block hx; have := SY.out.2.2.2.2; omega)⟩
  refine take_lit (i := 7) (v := ?vr1x7) rfl (by kernel_rfl) (by kernel_rfl) (by kernel_rfl) (fun _ _ _ h => h) (Or.inl ⟨by rfl, ?hyr1x7⟩) (by assumption) ?restr1x7
  case hyr1x7 => (intro wq hSw; (try dsimp only at hSw); go_simp; try with_reducible rfl)
  simp only [Act.put, List.setIfInBounds_toArray, List.set_cons_zero, List.set_cons_succ]
  refine ready_lit (i := 8) (by kernel_rfl) rfl (fun K hK => ?_)
  go_simp
  refine hK.out _ _ ?_ (fun hHeld8 => ?_)
  · exact ⟨HF.out.2.2.1.cell 0, HF.out.2.2.1.cell 1, HF.out.2.2.1.cell 2⟩
  clear hK K
  refine wpAnyH_done (by kernel_rfl) ?_ _
  generalize (((((w1.setCell ⟨w.heap.size + 1, 0, none⟩ (.int .i64 4)).setCell ⟨w.heap.size + 1, 1, none⟩ (.int .i64 (g : Int))).setCell ⟨w.heap.size + 1, 2, none⟩ (.slice (some ⟨nb, 0, none⟩) n nc)).setCell ⟨w.heap.size + 1, 3, none⟩ (.bool sh)).setCell ⟨w.heap.size + 1, 4, none⟩ (.int .i64 0)) = W9 at *
  have d0 : W9.cell? ⟨w.heap.size + 1, 0, none⟩ = some (.int .i64 4) := HF.out.2.1.cell 0
  have d1 : W9.cell? ⟨w.heap.size + 1, 1, none⟩ = some (.int .i64 (g : Int)) := HF.out.2.1.cell 1
  have d2 : W9.cell? ⟨w.heap.size + 1, 2, none⟩ = some (.slice (some ⟨nb, 0, none⟩) n nc) := HF.out.2.1.cell 2
  have d3 : W9.cell? ⟨w.heap.size + 1, 3, none⟩ = some (.bool sh) := HF.out.2.1.cell 3
  have d4 : W9.cell? ⟨w.heap.size + 1, 4, none⟩ = some (.int .i64 0) := HF.out.2.1.cell 4
  have HR : Hid (HlR w (WS.held n (.used g B sh)) (.returned (.agg #[.int .i64 4, .int .i64 (g : Int), .slice (some ⟨nb, 0, none⟩) n nc, .bool sh, .int .i64 0])) W9) := ⟨nb, nc, rfl, by have := SY.out.2.2.2.2; omega, HF.out.2.2.2, HF.out.1⟩
  go_wp2_with fail
  exact bodyPost_ret (v := .agg #[.int .i64 4, .int .i64 (g : Int), .slice (some ⟨nb, 0, none⟩) n nc, .bool sh, .int .i64 0]) (by simp [results, Tryz.results208, go_sem, d0, d1, d2, d3, d4]) rfl HR.out
theorem nilH166 (x : Value) (W : World) : (nilAhead 390 161 x "loop.example/signalbox/impl.held").run Tryz.prog W = .ok (some false) W := by kernel_rfl
theorem methH166 (x : Value) (W : World) : (method 390 161 x "loop.example/signalbox/impl.held").run Tryz.prog W = .ok (192, x) W := by kernel_rfl
theorem nilH168 (x : Value) (W : World) : (nilAhead 390 163 x "loop.example/signalbox/impl.held").run Tryz.prog W = .ok (some false) W := by kernel_rfl
theorem methH168 (x : Value) (W : World) : (method 390 163 x "loop.example/signalbox/impl.held").run Tryz.prog W = .ok (195, x) W := by kernel_rfl
theorem nilH169 (x : Value) (W : World) : (nilAhead 390 164 x "loop.example/signalbox/impl.held").run Tryz.prog W = .ok (some false) W := by kernel_rfl
theorem methH169 (x : Value) (W : World) : (method 390 164 x "loop.example/signalbox/impl.held").run Tryz.prog W = .ok (202, x) W := by kernel_rfl
theorem nilH171 (x : Value) (W : World) : (nilAhead 390 166 x "loop.example/signalbox/impl.held").run Tryz.prog W = .ok (some false) W := by kernel_rfl
theorem methH171 (x : Value) (W : World) : (method 390 166 x "loop.example/signalbox/impl.held").run Tryz.prog W = .ok (205, x) W := by kernel_rfl
theorem nilH174 (x : Value) (W : World) : (nilAhead 390 169 x "loop.example/signalbox/impl.held").run Tryz.prog W = .ok (some false) W := by kernel_rfl
theorem methH174 (x : Value) (W : World) : (method 390 169 x "loop.example/signalbox/impl.held").run Tryz.prog W = .ok (208, x) W := by kernel_rfl
/-- how a way stands, whatever its state -/
theorem held_any {n : Nat} {w : World} {s : WS} {v : Value} (hn1 : 1 ≤ n) (hn : n ≤ 1048576) (h : WsV w n s v) :
    ∃ (T : TypeId) (x : Value) (F : Nat), ((T = 161 ∧ F = 192) ∨ (T = 163 ∧ F = 195) ∨ (T = 164 ∧ F = 202) ∨ (T = 166 ∧ F = 205) ∨ (T = 169 ∧ F = 208)) ∧ v = .iface T x ∧ (∀ W, (nilAhead 390 T x "loop.example/signalbox/impl.held").run Tryz.prog W = .ok (some false) W) ∧ (∀ W, (method 390 T x "loop.example/signalbox/impl.held").run Tryz.prog W = .ok (F, x) W) ∧
      ∀ W : World, WsV W n s v → Calls Tryz.prog F #[x, .int .i64 (n : Int)] W fun e w' => HlR W (WS.held n s) e w' := by
  cases s with
  | idle => exact ⟨161, _, 192, .inl ⟨rfl, rfl⟩, h, nilH166 _, methH166 _, fun W _ => idleH191 n W hn⟩
  | set sh => exact ⟨163, _, 195, .inr (.inl ⟨rfl, rfl⟩), h, nilH168 _, methH168 _, fun W _ => setH194 sh n W hn⟩
  | clear => exact ⟨164, _, 202, .inr (.inr (.inl ⟨rfl, rfl⟩)), h, nilH169 _, methH169 _, fun W _ => clearH201 n W hn⟩
  | taking t => exact ⟨166, _, 205, .inr (.inr (.inr (.inl ⟨rfl, rfl⟩))), h, nilH171 _, methH171 _, fun W _ => takingH204 t n W hn⟩
  | used g B sh =>
    obtain ⟨rb, cap, _, rfl, _, _⟩ := h
    refine ⟨169, _, 208, .inr (.inr (.inr (.inr ⟨rfl, rfl⟩))), rfl, nilH174 _, methH174 _, fun W hW => ?_⟩
    obtain ⟨rb', cap', _, e, _, h3⟩ := hW
    simp at e
    obtain ⟨rfl, rfl⟩ := e
    exact usedH207 g rb n cap B sh n W hn1 hn h3

end Go.Proofs.YtkeilejbelblcaaGreatDoor
