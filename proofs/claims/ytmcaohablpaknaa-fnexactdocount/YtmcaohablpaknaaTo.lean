import Derived.Test.YtmcaohablpaknaaMd
namespace Go.Proofs.Ytmcaohablpaknaa
open Go.RowKit

set_option maxHeartbeats 400000 in
theorem toCounter (a0 a1 : Int) (w : World) :
    Calls Try.prog 62 #[.agg #[.int .i64 a0, .int .i64 a1]] w fun e w' => e = .returned (.agg #[.int .i64 a0, .int .i64 a1]) ∧ Below w.heap.size w w' := by
  go_enter Try.func62, Try.ntmps62
  go_wp2
  exact bodyPost_ret (v := .agg #[.int .i64 a0, .int .i64 a1]) (by simp [results, Try.results62, go_sem]) rfl ⟨rfl, bel3 _ _ _ _⟩

set_option maxHeartbeats 800000 in
theorem toSection (s : Sec) (w : World) :
    Calls Try.prog 65 #[.agg #[.int .i64 s.told, .int .i64 s.count, .bool s.lost, .bool s.sweep, .int .i64 s.last]] w fun e w' => e = .returned (.agg #[.int .i64 s.told, .int .i64 s.count, .bool s.lost, .bool s.sweep, .int .i64 s.last]) ∧ Below w.heap.size w w' := by
  go_enter Try.func65, Try.ntmps65
  go_wp2
  exact bodyPost_ret (v := .agg #[.int .i64 s.told, .int .i64 s.count, .bool s.lost, .bool s.sweep, .int .i64 s.last]) (by simp [results, Try.results65, go_sem]) rfl ⟨rfl, bel3 _ _ _ _⟩

set_option maxHeartbeats 1000000 in
theorem toCounterS (a : Option Addr) (n cap : Nat) (F : Nat → Nat → Int) (w : World) (hn : n ≤ 1048576) (hE : VsAt 2 0 w a n (intF F)) :
    Calls Try.prog 39 #[.slice a n cap] w fun e w' => ∃ b, b = w.heap.size ∧ e = .returned (.slice (some ⟨b, 0, none⟩) n n) ∧ VOwn b 68 2 w' (.slice (some ⟨b, 0, none⟩) n n) n (intF F) ∧ Below w.heap.size w w' := by
  have hmk := make_rows (P := Try.prog) 27 68 _ 16 2 Try.underlying27 infoCounter n (by omega) (by omega)
  have hf0 := VTo.new 2 68 w (.agg #[.int .i64 0, .int .i64 0]) n (intF F)
  go_enter Try.func39, Try.ntmps39
  go_wp2_with fail
  go_loopw [4] (fun i wr => ∃ (k : Nat), k ≤ n ∧ i = .int .i64 k ∧ VTo 2 68 wr w.heap.size n (k * 2) (intF F) ∧ Below w.heap.size w wr) (fun i _ => n - (intOf i).toNat)
  case atStart => exact ⟨0, Nat.zero_le _, rfl, by first | exact hf0 | simpa only [Nat.mul_one] using hf0, bel1 _ _⟩
  case round =>
    obtain ⟨k, hk, rfl, hto, hbel⟩ := hrel
    clear hf0 hmk
    by_cases hlt : k < n
    · obtain ⟨b, off, rfl, _, hb, hc⟩ := (hE.mono (Nat.le_refl _) hbel (Nat.le_refl _)) (by omega)
      have c0 : wr.cell? ⟨b, off + k * 2, none⟩ = some (.int .i64 (F k 0)) := hc k hlt 0 (by omega)
      have c1 : wr.cell? ⟨b, off + k * 2 + 1, none⟩ = some (.int .i64 (F k 1)) := hc k hlt 1 (by omega)
      clear hc
      go_wp2_with fail
      refine (toCounter (F k 0) (F k 1) _).mono ?_
      rintro e w1 ⟨rfl, hb1⟩
      have hto1 : VTo 2 68 w1 w.heap.size n (k * 2) (intF F) := hto.below hb1
      have hbel1 := hbel.trans (hb1.mono hbel.size)
      have hR := ((hto1.step (x := .int .i64 (F k 0)) (by rw [show (k * 2) / 2 = k by omega, show (k * 2) % 2 = 0 by omega] <;> rfl)).step (x := .int .i64 (F k 1)) (by rw [show (k * 2 + 1) / 2 = k by omega, show (k * 2 + 1) % 2 = 1 by omega] <;> rfl))
      obtain ⟨f, hr1, _⟩ := hto1
      have d0 := hr1.cell (i := k * 2) (by omega)
      have e0 := hr1.frozen (k * 2)
      have d1 := hr1.cell (i := k * 2 + 1) (by omega)
      have e1 := hr1.frozen (k * 2 + 1)
      clear c0 c1 hto hr1
      go_wp2_with fail
      go_roundw
      case rel => exact ⟨k + 1, by omega, by go_num, by rw [show (k + 1) * 2 = k * 2 + 1 + 1 by omega]; exact hR, ((hbel1.setCell (Nat.le_refl _) _).setCell (Nat.le_refl _) _)⟩
      case measure => simp [intOf]; omega
    · obtain rfl : k = n := by omega
      go_wp2
      go_ret
      exact ⟨_, rfl, rfl, VTo.own (by simpa using hto) (by simp [maxLen]; omega), hbel⟩

set_option maxHeartbeats 1000000 in
theorem toSectionS (a : Option Addr) (n cap : Nat) (S : Nat → Sec) (w : World) (hn : n ≤ 1048576) (hE : VsAt 5 0 w a n (secF S)) :
    Calls Try.prog 58 #[.slice a n cap] w fun e w' => ∃ b, b = w.heap.size ∧ e = .returned (.slice (some ⟨b, 0, none⟩) n n) ∧ VOwn b 84 5 w' (.slice (some ⟨b, 0, none⟩) n n) n (secF S) ∧ Below w.heap.size w w' := by
  have hmk := make_rows (P := Try.prog) 39 84 _ 32 5 Try.underlying39 infoSection n (by omega) (by omega)
  have hf0 := VTo.new 5 84 w (.agg #[.int .i64 0, .int .i64 0, .bool false, .bool false, .int .i64 0]) n (secF S)
  go_enter Try.func58, Try.ntmps58
  go_wp2_with fail
  go_loopw [4] (fun i wr => ∃ (k : Nat), k ≤ n ∧ i = .int .i64 k ∧ VTo 5 84 wr w.heap.size n (k * 5) (secF S) ∧ Below w.heap.size w wr) (fun i _ => n - (intOf i).toNat)
  case atStart => exact ⟨0, Nat.zero_le _, rfl, by first | exact hf0 | simpa only [Nat.mul_one] using hf0, bel1 _ _⟩
  case round =>
    obtain ⟨k, hk, rfl, hto, hbel⟩ := hrel
    clear hf0 hmk
    by_cases hlt : k < n
    · obtain ⟨b, off, rfl, _, hb, hc⟩ := (hE.mono (Nat.le_refl _) hbel (Nat.le_refl _)) (by omega)
      have c0 : wr.cell? ⟨b, off + k * 5, none⟩ = some (.int .i64 (S k).told) := hc k hlt 0 (by omega)
      have c1 : wr.cell? ⟨b, off + k * 5 + 1, none⟩ = some (.int .i64 (S k).count) := hc k hlt 1 (by omega)
      have c2 : wr.cell? ⟨b, off + k * 5 + 2, none⟩ = some (.bool (S k).lost) := hc k hlt 2 (by omega)
      have c3 : wr.cell? ⟨b, off + k * 5 + 3, none⟩ = some (.bool (S k).sweep) := hc k hlt 3 (by omega)
      have c4 : wr.cell? ⟨b, off + k * 5 + 4, none⟩ = some (.int .i64 (S k).last) := hc k hlt 4 (by omega)
      clear hc
      go_wp2_with fail
      refine (toSection (S k) _).mono ?_
      rintro e w1 ⟨rfl, hb1⟩
      have hto1 : VTo 5 84 w1 w.heap.size n (k * 5) (secF S) := hto.below hb1
      have hbel1 := hbel.trans (hb1.mono hbel.size)
      have hR := (((((hto1.step (x := .int .i64 (S k).told) (by rw [show (k * 5) / 5 = k by omega, show (k * 5) % 5 = 0 by omega] <;> rfl)).step (x := .int .i64 (S k).count) (by rw [show (k * 5 + 1) / 5 = k by omega, show (k * 5 + 1) % 5 = 1 by omega] <;> rfl)).step (x := .bool (S k).lost) (by rw [show (k * 5 + 2) / 5 = k by omega, show (k * 5 + 2) % 5 = 2 by omega] <;> rfl)).step (x := .bool (S k).sweep) (by rw [show (k * 5 + 3) / 5 = k by omega, show (k * 5 + 3) % 5 = 3 by omega] <;> rfl)).step (x := .int .i64 (S k).last) (by rw [show (k * 5 + 4) / 5 = k by omega, show (k * 5 + 4) % 5 = 4 by omega] <;> rfl))
      obtain ⟨f, hr1, _⟩ := hto1
      have d0 := hr1.cell (i := k * 5) (by omega)
      have e0 := hr1.frozen (k * 5)
      have d1 := hr1.cell (i := k * 5 + 1) (by omega)
      have e1 := hr1.frozen (k * 5 + 1)
      have d2 := hr1.cell (i := k * 5 + 2) (by omega)
      have e2 := hr1.frozen (k * 5 + 2)
      have d3 := hr1.cell (i := k * 5 + 3) (by omega)
      have e3 := hr1.frozen (k * 5 + 3)
      have d4 := hr1.cell (i := k * 5 + 4) (by omega)
      have e4 := hr1.frozen (k * 5 + 4)
      clear c0 c1 c2 c3 c4 hto hr1
      go_wp2_with fail
      go_roundw
      case rel => exact ⟨k + 1, by omega, by go_num, by rw [show (k + 1) * 5 = k * 5 + 1 + 1 + 1 + 1 + 1 by omega]; exact hR, (((((hbel1.setCell (Nat.le_refl _) _).setCell (Nat.le_refl _) _).setCell (Nat.le_refl _) _).setCell (Nat.le_refl _) _).setCell (Nat.le_refl _) _)⟩
      case measure => simp [intOf]; omega
    · obtain rfl : k = n := by omega
      go_wp2
      go_ret
      exact ⟨_, rfl, rfl, VTo.own (by simpa using hto) (by simp [maxLen]; omega), hbel⟩

set_option maxHeartbeats 1000000 in
theorem toBoolS (a : Option Addr) (n cap : Nat) (D : Nat → Bool) (w : World) (hn : n ≤ 1048576) (hE : VsAt 1 0 w a n (boolF D)) :
    Calls Try.prog 59 #[.slice a n cap] w fun e w' => ∃ b, b = w.heap.size ∧ e = .returned (.slice (some ⟨b, 0, none⟩) n n) ∧ VOwn b 4 1 w' (.slice (some ⟨b, 0, none⟩) n n) n (boolF D) ∧ Below w.heap.size w w' := by
  have hmk := make_rows (P := Try.prog) 40 4 _ 1 1 Try.underlying40 infoBool n (by omega) (by omega)
  have hf0 := VTo.new 1 4 w (.bool false) n (boolF D)
  go_enter Try.func59, Try.ntmps59
  go_wp2_with fail
  go_loopw [4] (fun i wr => ∃ (k : Nat), k ≤ n ∧ i = .int .i64 k ∧ VTo 1 4 wr w.heap.size n (k) (boolF D) ∧ Below w.heap.size w wr) (fun i _ => n - (intOf i).toNat)
  case atStart => exact ⟨0, Nat.zero_le _, rfl, by first | exact hf0 | simpa only [Nat.mul_one] using hf0, bel1 _ _⟩
  case round =>
    obtain ⟨k, hk, rfl, hto, hbel⟩ := hrel
    clear hf0 hmk
    by_cases hlt : k < n
    · obtain ⟨b, off, rfl, _, hb, hc⟩ := (hE.mono (Nat.le_refl _) hbel (Nat.le_refl _)) (by omega)
      have c0 : wr.cell? ⟨b, off + k, none⟩ = some (.bool (D k)) := by have := hc k hlt 0 (by omega); rwa [Nat.mul_one] at this
      clear hc
      have hto1 : VTo 1 4 wr w.heap.size n (k) (boolF D) := hto
      have hbel1 := hbel
      have hR := (hto1.step (x := .bool (D k)) (by rw [show k / 1 = k by omega] <;> rfl))
      obtain ⟨f, hr1, _⟩ := hto1
      have d0 := hr1.cell (i := k) (by omega)
      have e0 := hr1.frozen (k)
      clear  hto hr1
      go_wp2_with fail
      go_roundw
      case rel => exact ⟨k + 1, by omega, by go_num, by exact hR, (hbel1.setCell (Nat.le_refl _) _)⟩
      case measure => simp [intOf]; omega
    · obtain rfl : k = n := by omega
      go_wp2
      go_ret
      exact ⟨_, rfl, rfl, VTo.own (by simpa using hto) (by simp [maxLen]; omega), hbel⟩


end Go.Proofs.Ytmcaohablpaknaa
