import Derived.Test.YtkeilejbelblcaaGreatDoorGK1Tf
import Derived.Test.YtkeilejbelblcaaGreatDoorK12
import Derived.Test.YtkeilejbelblcaaGreatDoorGBoBm
namespace Go.Proofs.YtkeilejbelblcaaGreatDoor
open Go.RowKit Go.Lib

set_option maxHeartbeats 400000 in
theorem toPoint (a0 a1 : Int) (w : World) :
    Calls Tryz.prog 75 #[.agg #[.int .i64 a0, .int .i64 a1]] w fun e w' => e = .returned (.agg #[.int .i64 a0, .int .i64 a1]) ∧ Below w.heap.size w w' := by
  go_enter Tryz.func75, Tryz.ntmps75
  go_wp2
  exact bodyPost_ret (v := .agg #[.int .i64 a0, .int .i64 a1]) (by simp [results, Tryz.results75, go_sem]) rfl ⟨rfl, bel3 _ _ _ _⟩

set_option maxHeartbeats 1000000 in
theorem toPointS (a : Option Addr) (n cap : Nat) (F : Nat → Nat → Int) (w : World) (hn : n ≤ 1048576) (hE : VsAt 2 0 w a n (intF F)) :
    Calls Tryz.prog 40 #[.slice a n cap] w fun e w' => ∃ b, b = w.heap.size ∧ e = .returned (.slice (some ⟨b, 0, none⟩) n n) ∧ VOwn b 69 2 w' (.slice (some ⟨b, 0, none⟩) n n) n (intF F) ∧ Below w.heap.size w w' := by
  have hmk := make_rows (P := Tryz.prog) 39 69 _ 16 2 Tryz.underlying39 infoPoint n (by omega) (by omega)
  have hf0 := VTo.new 2 69 w (.agg #[.int .i64 0, .int .i64 0]) n (intF F)
  go_enter Tryz.func40, Tryz.ntmps40
  go_wp2_with fail
  go_loopw [4] (fun i wr => ∃ (k : Nat), k ≤ n ∧ i = .int .i64 k ∧ VTo 2 69 wr w.heap.size n (k * 2) (intF F) ∧ Below w.heap.size w wr) (fun i _ => n - (intOf i).toNat)
  case atStart => exact ⟨0, Nat.zero_le _, rfl, by first | exact hf0 | simpa only [Nat.mul_one] using hf0, bel1 _ _⟩
  case round =>
    obtain ⟨k, hk, rfl, hto, hbel⟩ := hrel
    clear hf0 hmk
    by_cases hlt : k < n
    · obtain ⟨b, off, rfl, _, hb, hc⟩ := (hE.mono (Nat.le_refl _) hbel (Nat.le_refl _)) (by omega)
      have c0 : wr.cell? ⟨b, off + k * 2, none⟩ = some (.int .i64 (F k 0)) := hc k hlt 0 (by omega)
      have c1 : wr.cell? ⟨b, off + k * 2 + 1, none⟩ = some (.int .i64 (F k 1)) := hc k hlt 1 (by omega)
      clear hc
      go_wp2_with fail
      refine (toPoint (F k 0) (F k 1) _).mono ?_
      rintro e w1 ⟨rfl, hb1⟩
      have hto1 : VTo 2 69 w1 w.heap.size n (k * 2) (intF F) := hto.below hb1
      have hbel1 := hbel.trans (hb1.mono hbel.size)
      have hR := ((hto1.step (x := .int .i64 (F k 0)) (by rw [show (k * 2) / 2 = k by omega, show (k * 2) % 2 = 0 by omega] <;> rfl)).step (x := .int .i64 (F k 1)) (by rw [show (k * 2 + 1) / 2 = k by omega, show (k * 2 + 1) % 2 = 1 by omega] <;> rfl))
      obtain ⟨f, hr1, _⟩ := hto1
      have d0 := hr1.cell (i := k * 2) (by omega)
      have e0 := hr1.frozen (k * 2)
      have d1 := hr1.cell (i := k * 2 + 1) (by omega)
      have e1 := hr1.frozen (k * 2 + 1)
      clear c0 c1 hto hr1
      go_wp2_with fail
      go_roundw
      case rel => exact ⟨k + 1, by omega, by go_num, by rw [show (k + 1) * 2 = k * 2 + 1 + 1 by omega]; exact hR, ((hbel1.setCell (Nat.le_refl _) _).setCell (Nat.le_refl _) _)⟩
      case measure => simp [intOf]; omega
    · obtain rfl : k = n := by omega
      go_wp2
      go_ret
      exact ⟨_, rfl, rfl, VTo.own (by simpa using hto) (by simp [maxLen]; omega), hbel⟩

/-- how a way stands, copied -/
def ThR (w : World) (h : Hl) (e : Ending) (w' : World) : Prop := ∃ b1, e = .returned (.agg #[.int .i64 h.st, .int .i64 h.gone, .slice (some ⟨b1, 0, none⟩) h.nb h.nb, .bool h.shown, .int .i64 h.timer]) ∧ w.heap.size ≤ b1 ∧ VOwn b1 4 1 w' (.slice (some ⟨b1, 0, none⟩) h.nb h.nb) h.nb (boolF h.B) ∧ Below w.heap.size w w'
set_option maxRecDepth 100000 in
set_option maxHeartbeats 4000000 in
theorem toHeld77 (h : Hl) (ra : Option Addr) (rc : Nat) (w : World) (hn : h.nb ≤ 1048576) (hv : VsAt 1 0 w ra h.nb (boolF h.B)) :
    Calls Tryz.prog 76 #[.agg #[.int .i64 h.st, .int .i64 h.gone, .slice ra h.nb rc, .bool h.shown, .int .i64 h.timer]] w fun e w' => ThR w h e w' := by
  have HVX : Hid (VsAt 1 0 w ra h.nb (boolF h.B)) := hv
  have S0 : Hid (Below w.heap.size w (((w.alloc (.cells #[.int .i64 h.st, .int .i64 h.gone, .slice ra h.nb rc, .bool h.shown, .int .i64 h.timer] 122)).alloc (.cells #[.int .i64 0, .int .i64 0, .slice none 0 0, .bool false, .int .i64 0] 72)).alloc (.cells #[.int .i64 h.st, .int .i64 h.gone, .slice none 0 0, .bool false, .int .i64 0] 72)) ∧ Box (((w.alloc (.cells #[.int .i64 h.st, .int .i64 h.gone, .slice ra h.nb rc, .bool h.shown, .int .i64 h.timer] 122)).alloc (.cells #[.int .i64 0, .int .i64 0, .slice none 0 0, .bool false, .int .i64 0] 72)).alloc (.cells #[.int .i64 h.st, .int .i64 h.gone, .slice none 0 0, .bool false, .int .i64 0] 72)) w.heap.size 122 #[.int .i64 h.st, .int .i64 h.gone, .slice ra h.nb rc, .bool h.shown, .int .i64 h.timer] ∧ Box (((w.alloc (.cells #[.int .i64 h.st, .int .i64 h.gone, .slice ra h.nb rc, .bool h.shown, .int .i64 h.timer] 122)).alloc (.cells #[.int .i64 0, .int .i64 0, .slice none 0 0, .bool false, .int .i64 0] 72)).alloc (.cells #[.int .i64 h.st, .int .i64 h.gone, .slice none 0 0, .bool false, .int .i64 0] 72)) (w.heap.size + 1) 72 #[.int .i64 0, .int .i64 0, .slice none 0 0, .bool false, .int .i64 0] ∧ Box (((w.alloc (.cells #[.int .i64 h.st, .int .i64 h.gone, .slice ra h.nb rc, .bool h.shown, .int .i64 h.timer] 122)).alloc (.cells #[.int .i64 0, .int .i64 0, .slice none 0 0, .bool false, .int .i64 0] 72)).alloc (.cells #[.int .i64 h.st, .int .i64 h.gone, .slice none 0 0, .bool false, .int .i64 0] 72)) (w.heap.size + 1 + 1) 72 #[.int .i64 h.st, .int .i64 h.gone, .slice none 0 0, .bool false, .int .i64 0]) := ⟨bel3 _ _ _ _, ((Box.new _ _ _).alloc _).alloc _, by have := (Box.new (w.alloc (.cells #[.int .i64 h.st, .int .i64 h.gone, .slice ra h.nb rc, .bool h.shown, .int .i64 h.timer] 122)) 72 #[.int .i64 0, .int .i64 0, .slice none 0 0, .bool false, .int .i64 0]).alloc (.cells #[.int .i64 h.st, .int .i64 h.gone, .slice none 0 0, .bool false, .int .i64 0] 72); simpa using this, by have := Box.new ((w.alloc (.cells #[.int .i64 h.st, .int .i64 h.gone, .slice ra h.nb rc, .bool h.shown, .int .i64 h.timer] 122)).alloc (.cells #[.int .i64 0, .int .i64 0, .slice none 0 0, .bool false, .int .i64 0] 72)) 72 #[.int .i64 h.st, .int .i64 h.gone, .slice none 0 0, .bool false, .int .i64 0]; simpa using this⟩
  have hsz : (((w.alloc (.cells #[.int .i64 h.st, .int .i64 h.gone, .slice ra h.nb rc, .bool h.shown, .int .i64 h.timer] 122)).alloc (.cells #[.int .i64 0, .int .i64 0, .slice none 0 0, .bool false, .int .i64 0] 72)).alloc (.cells #[.int .i64 h.st, .int .i64 h.gone, .slice none 0 0, .bool false, .int .i64 0] 72)).heap.size = w.heap.size + 1 + 1 + 1 := by simp
  clear hv
  go_enter Tryz.func76, Tryz.ntmps76
  go_wp2_with fail
  generalize (((w.alloc (.cells #[.int .i64 h.st, .int .i64 h.gone, .slice ra h.nb rc, .bool h.shown, .int .i64 h.timer] 122)).alloc (.cells #[.int .i64 0, .int .i64 0, .slice none 0 0, .bool false, .int .i64 0] 72)).alloc (.cells #[.int .i64 h.st, .int .i64 h.gone, .slice none 0 0, .bool false, .int .i64 0] 72)) = W at S0 hsz ⊢
  refine (toBoolS ra h.nb rc h.B W hn (HVX.out.mono (Nat.le_refl _) S0.out.1 (Nat.le_refl _))).mono ?_
  rintro e w1 ⟨b, hbe, rfl, ho, hb1⟩
  rw [hsz] at hbe
  subst hbe
  have S1 : Hid (Below w.heap.size w w1 ∧ Box w1 w.heap.size 122 #[.int .i64 h.st, .int .i64 h.gone, .slice ra h.nb rc, .bool h.shown, .int .i64 h.timer] ∧ Box w1 (w.heap.size + 1) 72 #[.int .i64 0, .int .i64 0, .slice none 0 0, .bool false, .int .i64 0] ∧ Box w1 (w.heap.size + 1 + 1) 72 #[.int .i64 h.st, .int .i64 h.gone, .slice none 0 0, .bool false, .int .i64 0] ∧ VOwn (w.heap.size + 1 + 1 + 1) 4 1 w1 (.slice (some ⟨w.heap.size + 1 + 1 + 1, 0, none⟩) h.nb h.nb) h.nb (boolF h.B)) := ⟨S0.out.1.trans (hb1.mono S0.out.1.size), S0.out.2.1.mono hb1 (Nat.le_refl _), S0.out.2.2.1.mono hb1 (Nat.le_refl _), S0.out.2.2.2.mono hb1 (Nat.le_refl _), ho⟩
  clear S0 ho hb1
  have u0 : w1.cell? ⟨w.heap.size, 0, none⟩ = some (.int .i64 h.st) := S1.out.2.1.cell 0
  have u1 : w1.cell? ⟨w.heap.size, 1, none⟩ = some (.int .i64 h.gone) := S1.out.2.1.cell 1
  have u2 : w1.cell? ⟨w.heap.size, 2, none⟩ = some (.slice ra h.nb rc) := S1.out.2.1.cell 2
  have u3 : w1.cell? ⟨w.heap.size, 3, none⟩ = some (.bool h.shown) := S1.out.2.1.cell 3
  have u4 : w1.cell? ⟨w.heap.size, 4, none⟩ = some (.int .i64 h.timer) := S1.out.2.1.cell 4
  have z0 : w1.cell? ⟨w.heap.size + 1, 0, none⟩ = some (.int .i64 0) := S1.out.2.2.1.cell 0
  have z1 : w1.cell? ⟨w.heap.size + 1, 1, none⟩ = some (.int .i64 0) := S1.out.2.2.1.cell 1
  have z2 : w1.cell? ⟨w.heap.size + 1, 2, none⟩ = some (.slice none 0 0) := S1.out.2.2.1.cell 2
  have z3 : w1.cell? ⟨w.heap.size + 1, 3, none⟩ = some (.bool false) := S1.out.2.2.1.cell 3
  have z4 : w1.cell? ⟨w.heap.size + 1, 4, none⟩ = some (.int .i64 0) := S1.out.2.2.1.cell 4
  have m0 : w1.cell? ⟨w.heap.size + 1 + 1, 0, none⟩ = some (.int .i64 h.st) := S1.out.2.2.2.1.cell 0
  have m1 : w1.cell? ⟨w.heap.size + 1 + 1, 1, none⟩ = some (.int .i64 h.gone) := S1.out.2.2.2.1.cell 1
  have m2 : w1.cell? ⟨w.heap.size + 1 + 1, 2, none⟩ = some (.slice none 0 0) := S1.out.2.2.2.1.cell 2
  have m3 : w1.cell? ⟨w.heap.size + 1 + 1, 3, none⟩ = some (.bool false) := S1.out.2.2.2.1.cell 3
  have m4 : w1.cell? ⟨w.heap.size + 1 + 1, 4, none⟩ = some (.int .i64 0) := S1.out.2.2.2.1.cell 4
  have y0 := S1.out.2.2.1.free 0
  have n0 := S1.out.2.2.2.1.free 0
  have y1 := S1.out.2.2.1.free 1
  have n1 := S1.out.2.2.2.1.free 1
  have y2 := S1.out.2.2.1.free 2
  have n2 := S1.out.2.2.2.1.free 2
  have y3 := S1.out.2.2.1.free 3
  have n3 := S1.out.2.2.2.1.free 3
  have y4 := S1.out.2.2.1.free 4
  have n4 := S1.out.2.2.2.1.free 4
  have HF : Hid (Below w.heap.size w ((((((((w1.setCell ⟨w.heap.size + 1 + 1, 2, none⟩ (.slice (some ⟨w.heap.size + 1 + 1 + 1, 0, none⟩) h.nb h.nb)).setCell ⟨w.heap.size + 1 + 1, 3, none⟩ (.bool h.shown)).setCell ⟨w.heap.size + 1 + 1, 4, none⟩ (.int .i64 h.timer)).setCell ⟨w.heap.size + 1, 0, none⟩ (.int .i64 h.st)).setCell ⟨w.heap.size + 1, 1, none⟩ (.int .i64 h.gone)).setCell ⟨w.heap.size + 1, 2, none⟩ (.slice (some ⟨w.heap.size + 1 + 1 + 1, 0, none⟩) h.nb h.nb)).setCell ⟨w.heap.size + 1, 3, none⟩ (.bool h.shown)).setCell ⟨w.heap.size + 1, 4, none⟩ (.int .i64 h.timer)) ∧ Box ((((((((w1.setCell ⟨w.heap.size + 1 + 1, 2, none⟩ (.slice (some ⟨w.heap.size + 1 + 1 + 1, 0, none⟩) h.nb h.nb)).setCell ⟨w.heap.size + 1 + 1, 3, none⟩ (.bool h.shown)).setCell ⟨w.heap.size + 1 + 1, 4, none⟩ (.int .i64 h.timer)).setCell ⟨w.heap.size + 1, 0, none⟩ (.int .i64 h.st)).setCell ⟨w.heap.size + 1, 1, none⟩ (.int .i64 h.gone)).setCell ⟨w.heap.size + 1, 2, none⟩ (.slice (some ⟨w.heap.size + 1 + 1 + 1, 0, none⟩) h.nb h.nb)).setCell ⟨w.heap.size + 1, 3, none⟩ (.bool h.shown)).setCell ⟨w.heap.size + 1, 4, none⟩ (.int .i64 h.timer)) (w.heap.size + 1) 72 #[.int .i64 h.st, .int .i64 h.gone, .slice (some ⟨w.heap.size + 1 + 1 + 1, 0, none⟩) h.nb h.nb, .bool h.shown, .int .i64 h.timer] ∧ VOwn (w.heap.size + 1 + 1 + 1) 4 1 ((((((((w1.setCell ⟨w.heap.size + 1 + 1, 2, none⟩ (.slice (some ⟨w.heap.size + 1 + 1 + 1, 0, none⟩) h.nb h.nb)).setCell ⟨w.heap.size + 1 + 1, 3, none⟩ (.bool h.shown)).setCell ⟨w.heap.size + 1 + 1, 4, none⟩ (.int .i64 h.timer)).setCell ⟨w.heap.size + 1, 0, none⟩ (.int .i64 h.st)).setCell ⟨w.heap.size + 1, 1, none⟩ (.int .i64 h.gone)).setCell ⟨w.heap.size + 1, 2, none⟩ (.slice (some ⟨w.heap.size + 1 + 1 + 1, 0, none⟩) h.nb h.nb)).setCell ⟨w.heap.size + 1, 3, none⟩ (.bool h.shown)).setCell ⟨w.heap.size + 1, 4, none⟩ (.int .i64 h.timer)) (.slice (some ⟨w.heap.size + 1 + 1 + 1, 0, none⟩) h.nb h.nb) h.nb (boolF h.B)) := by
    have hne : w.heap.size + 1 ≠ w.heap.size + 1 + 1 := by omega
    have hB : ∀ {u : World} (j : Nat) (x : Value), Below w.heap.size w u → Below w.heap.size w (u.setCell ⟨w.heap.size + 1 + 1, j, none⟩ x) := fun j x hu => hu.setCell (show w.heap.size ≤ w.heap.size + 1 + 1 by omega) x
    have hX : ∀ {u : World} (j : Nat) (x : Value), Box u (w.heap.size + 1) 72 #[.int .i64 0, .int .i64 0, .slice none 0 0, .bool false, .int .i64 0] → Box (u.setCell ⟨w.heap.size + 1 + 1, j, none⟩ x) (w.heap.size + 1) 72 #[.int .i64 0, .int .i64 0, .slice none 0 0, .bool false, .int .i64 0] := fun j x hu => hu.other hne x
    have hO : ∀ {u : World} (q j : Nat) (x : Value), q < w.heap.size + 1 + 1 + 1 → VOwn (w.heap.size + 1 + 1 + 1) 4 1 u (.slice (some ⟨w.heap.size + 1 + 1 + 1, 0, none⟩) h.nb h.nb) h.nb (boolF h.B) → VOwn (w.heap.size + 1 + 1 + 1) 4 1 (u.setCell ⟨q, j, none⟩ x) (.slice (some ⟨w.heap.size + 1 + 1 + 1, 0, none⟩) h.nb h.nb) h.nb (boolF h.B) := fun q j x hq hu => hu.keep (Nat.le_refl _) fun g hg => Below.heap_setCell _ ⟨q, j, none⟩ x g (by have := own_block hg; show g ≠ q; omega)
    refine ⟨below_set5 (hB 4 _ (hB 3 _ (hB 2 _ S1.out.1))) (by omega), box_set5 (hX 4 _ (hX 3 _ (hX 2 _ S1.out.2.2.1))), ?_⟩
    have h3 := hO _ 4 (.int .i64 h.timer) (show w.heap.size + 1 + 1 < w.heap.size + 1 + 1 + 1 by omega) (hO _ 3 (.bool h.shown) (show w.heap.size + 1 + 1 < w.heap.size + 1 + 1 + 1 by omega) (hO _ 2 (.slice (some ⟨w.heap.size + 1 + 1 + 1, 0, none⟩) h.nb h.nb) (show w.heap.size + 1 + 1 < w.heap.size + 1 + 1 + 1 by omega) S1.out.2.2.2.2))
    exact h3.keep (Nat.le_refl _) fun g hg => heap_set5 (by have := own_block hg; omega)
  go_wp2_with fail
  generalize ((((((((w1.setCell ⟨w.heap.size + 1 + 1, 2, none⟩ (.slice (some ⟨w.heap.size + 1 + 1 + 1, 0, none⟩) h.nb h.nb)).setCell ⟨w.heap.size + 1 + 1, 3, none⟩ (.bool h.shown)).setCell ⟨w.heap.size + 1 + 1, 4, none⟩ (.int .i64 h.timer)).setCell ⟨w.heap.size + 1, 0, none⟩ (.int .i64 h.st)).setCell ⟨w.heap.size + 1, 1, none⟩ (.int .i64 h.gone)).setCell ⟨w.heap.size + 1, 2, none⟩ (.slice (some ⟨w.heap.size + 1 + 1 + 1, 0, none⟩) h.nb h.nb)).setCell ⟨w.heap.size + 1, 3, none⟩ (.bool h.shown)).setCell ⟨w.heap.size + 1, 4, none⟩ (.int .i64 h.timer)) = W9 at HF ⊢
  clear u0 z0 m0 y0 n0 u1 z1 m1 y1 n1 u2 z2 m2 y2 n2 u3 z3 m3 y3 n3 u4 z4 m4 y4 n4
  have d0 : W9.cell? ⟨w.heap.size + 1, 0, none⟩ = some (.int .i64 h.st) := HF.out.2.1.cell 0
  have d1 : W9.cell? ⟨w.heap.size + 1, 1, none⟩ = some (.int .i64 h.gone) := HF.out.2.1.cell 1
  have d2 : W9.cell? ⟨w.heap.size + 1, 2, none⟩ = some (.slice (some ⟨w.heap.size + 1 + 1 + 1, 0, none⟩) h.nb h.nb) := HF.out.2.1.cell 2
  have d3 : W9.cell? ⟨w.heap.size + 1, 3, none⟩ = some (.bool h.shown) := HF.out.2.1.cell 3
  have d4 : W9.cell? ⟨w.heap.size + 1, 4, none⟩ = some (.int .i64 h.timer) := HF.out.2.1.cell 4
  exact bodyPost_ret (v := .agg #[.int .i64 h.st, .int .i64 h.gone, .slice (some ⟨w.heap.size + 1 + 1 + 1, 0, none⟩) h.nb h.nb, .bool h.shown, .int .i64 h.timer]) (by simp [results, Tryz.results76, go_sem, d0, d1, d2, d3, d4]) rfl ⟨w.heap.size + 1 + 1 + 1, rfl, by omega, HF.out.2.2, HF.out.1⟩

end Go.Proofs.YtkeilejbelblcaaGreatDoor

namespace Go.Proofs.YtkeilejbelblcaaGreatDoor
open Go.RowKit Go.Lib

/-- a list of how ways stand, of which k are there -/
def HtOwn (w : World) (b n k : Nat) (Y : Nat → Hl) (r : Nat → Nat) : Prop :=
  ∃ vs : Array Value, Box w b 72 vs ∧ vs.size = n * 5 ∧ ∀ i, i < k → (∀ j, j < 5 → vs[i * 5 + j]? = some (hlF Y r i j)) ∧ VOwn (r i) 4 1 w (.slice (some ⟨r i, 0, none⟩) (Y i).nb (Y i).nb) (Y i).nb (boolF (Y i).B) ∧ b < r i ∧ ∀ j, j < i → r j < r i
theorem HtOwn.mono {w w' : World} {b n k M : Nat} {Y : Nat → Hl} {r : Nat → Nat} (h : HtOwn w b n k Y r) (hb : Below M w w') (hM : w.heap.size ≤ M) : HtOwn w' b n k Y r := by
  obtain ⟨vs, h1, h2, h3⟩ := h
  refine ⟨vs, h1.mono hb hM, h2, fun i hi => ?_⟩
  obtain ⟨e1, e2, e3⟩ := h3 i hi
  exact ⟨e1, e2.mono (Nat.le_refl _) hb hM, e3⟩
theorem HtOwn.step {w w1 : World} {b n k : Nat} {Y : Nat → Hl} {r : Nat → Nat} {b1 : Nat} (h : HtOwn w b n k Y r) (hk : k < n) (hb : Below w.heap.size w w1) (hb1 : w.heap.size ≤ b1) (ho : VOwn b1 4 1 w1 (.slice (some ⟨b1, 0, none⟩) (Y k).nb (Y k).nb) (Y k).nb (boolF (Y k).B)) :
    HtOwn (((((w1.setCell ⟨b, k * 5, none⟩ (.int .i64 (Y k).st)).setCell ⟨b, k * 5 + 1, none⟩ (.int .i64 (Y k).gone)).setCell ⟨b, k * 5 + 2, none⟩ (.slice (some ⟨b1, 0, none⟩) (Y k).nb (Y k).nb)).setCell ⟨b, k * 5 + 3, none⟩ (.bool (Y k).shown)).setCell ⟨b, k * 5 + 4, none⟩ (.int .i64 (Y k).timer)) b n (k + 1) Y (updN r k b1) := by
  have hbw : b < w.heap.size := by obtain ⟨_, h1, _⟩ := h; exact h1.lt
  have hrw : ∀ i, i < k → r i < w.heap.size := fun i hi => by obtain ⟨_, _, _, h3⟩ := h; exact ((h3 i hi).2.1.lt rfl).2
  obtain ⟨vs, h1, h2, h3⟩ := h.mono hb (Nat.le_refl _)
  have hkeep : ∀ g, g ≠ b → (((((w1.setCell ⟨b, k * 5, none⟩ (.int .i64 (Y k).st)).setCell ⟨b, k * 5 + 1, none⟩ (.int .i64 (Y k).gone)).setCell ⟨b, k * 5 + 2, none⟩ (.slice (some ⟨b1, 0, none⟩) (Y k).nb (Y k).nb)).setCell ⟨b, k * 5 + 3, none⟩ (.bool (Y k).shown)).setCell ⟨b, k * 5 + 4, none⟩ (.int .i64 (Y k).timer)).heap[g]? = w1.heap[g]? := fun g hg => by
    have q : ∀ (u : World) (i : Nat) (v : Value), (u.setCell ⟨b, i, none⟩ v).heap[g]? = u.heap[g]? := fun u i v => Below.heap_setCell u ⟨b, i, none⟩ v g hg
    rw [q, q, q, q, q]
  refine ⟨_, ((((h1.set (k * 5) (.int .i64 (Y k).st)).set (k * 5 + 1) (.int .i64 (Y k).gone)).set (k * 5 + 2) (.slice (some ⟨b1, 0, none⟩) (Y k).nb (Y k).nb)).set (k * 5 + 3) (.bool (Y k).shown)).set (k * 5 + 4) (.int .i64 (Y k).timer), by simp only [Array.size_setIfInBounds]; exact h2, fun i hi => ?_⟩
  by_cases e : i = k
  · subst e
    rw [updN_same]
    refine ⟨fun j hj => ?_, ho.keep (Nat.le_refl _) fun g hg => hkeep g (by have := own_block hg; omega), by omega, fun j hj => ?_⟩
    · have hlt : i * 5 + 4 < vs.size := by omega
      rcases (show j = 0 ∨ j = 1 ∨ j = 2 ∨ j = 3 ∨ j = 4 by omega) with rfl | rfl | rfl | rfl | rfl <;> simp [hlF, updN_same, Array.getElem?_setIfInBounds] <;> omega
    · rw [updN_ne (by omega)]
      have := hrw j (by omega)
      omega
  · obtain ⟨e1, e2, e3, e4⟩ := h3 i (by omega)
    rw [updN_ne e]
    refine ⟨fun j hj => ?_, e2.keep (Nat.le_refl _) fun g hg => hkeep g (by have := own_block hg; omega), e3, fun j hj => ?_⟩
    · have := e1 j hj
      simp only [Array.getElem?_setIfInBounds, show ¬ k * 5 + 4 = i * 5 + j by omega, show ¬ k * 5 + 3 = i * 5 + j by omega, show ¬ k * 5 + 2 = i * 5 + j by omega, show ¬ k * 5 + 1 = i * 5 + j by omega, show ¬ k * 5 = i * 5 + j by omega, if_false]
      rw [this]
      simp only [hlF, updN_ne e]
    · rw [updN_ne (by omega)]
      exact e4 j hj
theorem HtOwn.own {w : World} {b n : Nat} {Y : Nat → Hl} {r : Nat → Nat} (h : HtOwn w b n n Y r) (hn : n ≤ 1048576) : HsOwn b w (.slice (some ⟨b, 0, none⟩) n n) n Y r := by
  obtain ⟨vs, h1, h2, h3⟩ := h
  refine ⟨.inr ⟨b, n, vs, rfl, Nat.le_refl _, h1, Nat.le_refl _, by simp only [maxLen]; omega, h2, fun i hi j hj => (h3 i hi).1 j hj⟩, fun i hi => ⟨(h3 i hi).2.1, by have := (h3 i hi).2.2.1; omega⟩, fun i hi j hj e => ?_⟩
  by_cases c : i < j
  · have := (h3 j hj).2.2.2 i c
    omega
  · by_cases d : j < i
    · have := (h3 i hi).2.2.2 j d
      omega
    · omega
set_option maxRecDepth 100000 in
set_option maxHeartbeats 4000000 in
theorem toHeldS (a : Option Addr) (n cap : Nat) (Y : Nat → Hl) (w : World) (hn : n ≤ 1048576) (hR : HsAt 0 w a n Y) (hs : ∀ i, i < n → (Y i).nb ≤ 1048576) :
    Calls Tryz.prog 41 #[.slice a n cap] w fun e w' => ∃ b r, b = w.heap.size ∧ e = .returned (.slice (some ⟨b, 0, none⟩) n n) ∧ HsOwn b w' (.slice (some ⟨b, 0, none⟩) n n) n Y r ∧ Below w.heap.size w w' := by
  have HS : Hid (∀ i, i < n → (Y i).nb ≤ 1048576) := hs
  have hmk := make_rows (P := Tryz.prog) 40 72 _ 56 5 Tryz.underlying40 infoHeld n (by omega) (by omega)
  have hf0 : HtOwn (w.alloc (.cells (mk0 (.agg #[.int .i64 0, .int .i64 0, .slice none 0 0, .bool false, .int .i64 0]) (n * 5)) 72)) w.heap.size n 0 Y (fun _ => 0) := ⟨_, Box.new w 72 _, size_madeCells _ _, fun i hi => absurd hi (Nat.not_lt_zero _)⟩
  clear hs
  go_enter Tryz.func41, Tryz.ntmps41
  go_wp2_with fail
  go_loopw [4] (fun i wr => ∃ (k : Nat) (r : Nat → Nat), k ≤ n ∧ i = .int .i64 k ∧ Hid (HtOwn wr w.heap.size n k Y r) ∧ Below w.heap.size w wr) (fun i _ => n - (intOf i).toNat)
  case atStart => exact ⟨0, _, Nat.zero_le _, rfl, hf0, bel1 _ _⟩
  case round =>
    obtain ⟨k, r, hk, rfl, HT, hbel⟩ := hrel
    clear hf0 hmk
    by_cases hlt : k < n
    · obtain ⟨b, off, rfl, _, hb, hc⟩ := (hR.mono (Nat.le_refl _) hbel (Nat.le_refl _)) (by omega)
      obtain ⟨ra, rc, c0, c1, c2, c3, c4, hin⟩ := hc k hlt
      have HIN : Hid (VsAt 1 0 wr ra (Y k).nb (boolF (Y k).B)) := hin
      clear hc hin
      go_wp2_with fail
      clear c0 c1 c2 c3 c4
      refine (toHeld77 (Y k) ra rc _ (HS.out k hlt) HIN.out).mono ?_
      rintro e w1 ⟨b1, rfl, hbb, ho, hb1⟩
      have HST : Hid (HtOwn _ w.heap.size n (k + 1) Y (updN r k b1)) := HT.out.step hlt hb1 hbb ho
      obtain ⟨vs, h1, h2, _⟩ := HT.out.mono hb1 (Nat.le_refl _)
      have d : ∀ j, j < 5 → ∃ v, w1.cell? ⟨w.heap.size, k * 5 + j, none⟩ = some v := fun j hj => ⟨vs[k * 5 + j]'(by omega), by rw [h1.cell]; exact Array.getElem?_eq_getElem _⟩
      obtain ⟨v0, d0⟩ := d 0 (by omega)
      obtain ⟨v1, d1⟩ := d 1 (by omega)
      obtain ⟨v2, d2⟩ := d 2 (by omega)
      obtain ⟨v3, d3⟩ := d 3 (by omega)
      obtain ⟨v4, d4⟩ := d 4 (by omega)
      rw [Nat.add_zero] at d0
      have f0 := h1.free (k * 5)
      have f1 := h1.free (k * 5 + 1)
      have f2 := h1.free (k * 5 + 2)
      have f3 := h1.free (k * 5 + 3)
      have f4 := h1.free (k * 5 + 4)
      have hbel1 := hbel.trans (hb1.mono hbel.size)
      clear d h1 h2 HIN HT ho hb1
      go_wp2_with fail
      go_roundw
      case rel => exact ⟨k + 1, _, by omega, by go_num, HST, ((((hbel1.setCell (Nat.le_refl _) _).setCell (Nat.le_refl _) _).setCell (Nat.le_refl _) _).setCell (Nat.le_refl _) _).setCell (Nat.le_refl _) _⟩
      case measure => simp [intOf]; omega
    · obtain rfl : k = n := by omega
      go_wp2
      go_ret
      exact ⟨_, r, rfl, rfl, HT.out.own hn, hbel⟩

end Go.Proofs.YtkeilejbelblcaaGreatDoor
