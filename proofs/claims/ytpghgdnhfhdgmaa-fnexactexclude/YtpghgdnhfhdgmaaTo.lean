import Derived.Test.YtpghgdnhfhdgmaaMo
namespace Go.Proofs.Ytpghgdnhfhdgmaa
open Go.RowKit

set_option maxHeartbeats 400000 in
theorem toStep (a0 a1 : Int) (w : World) :
    Calls Try.prog 51 #[.agg #[.int .i64 a0, .int .i64 a1]] w fun e w' => e = .returned (.agg #[.int .i64 a0, .int .i64 a1]) ∧ Below w.heap.size w w' := by
  go_enter Try.func51, Try.ntmps51
  go_wp2
  exact bodyPost_ret (v := .agg #[.int .i64 a0, .int .i64 a1]) (by simp [results, Try.results51, go_sem]) rfl ⟨rfl, bel3 _ _ _ _⟩

set_option maxHeartbeats 1000000 in
theorem toStepS (a : Option Addr) (n cap : Nat) (F : Nat → Nat → Int) (w : World) (hn : n ≤ 1048576) (hE : NsAt 2 0 w a n F) :
    Calls Try.prog 31 #[.slice a n cap] w fun e w' => ∃ b, b = w.heap.size ∧ e = .returned (.slice (some ⟨b, 0, none⟩) n n) ∧ Own b 97 2 w' (.slice (some ⟨b, 0, none⟩) n n) (lsF 2 n F) ∧ Below w.heap.size w w' := by
  have hmk := make_rows (P := Try.prog) 32 97 _ 16 2 Try.underlying32 infoStep n (by omega) (by omega)
  have hf0 := NsTo.new 2 97 w (.agg #[.int .i64 0, .int .i64 0]) n F
  go_enter Try.func31, Try.ntmps31
  go_wp2_with fail
  go_loopw [4] (fun i wr => ∃ (k : Nat), k ≤ n ∧ i = .int .i64 k ∧ NsTo 2 97 wr w.heap.size n (k * 2) F ∧ Below w.heap.size w wr) (fun i _ => n - (intOf i).toNat)
  case atStart => exact ⟨0, Nat.zero_le _, rfl, by first | exact hf0 | simpa only [Nat.mul_one] using hf0, bel1 _ _⟩
  case round =>
    obtain ⟨k, hk, rfl, hto, hbel⟩ := hrel
    clear hf0 hmk
    by_cases hlt : k < n
    · obtain ⟨b, off, rfl, _, hb, hc⟩ := (hE.mono (Nat.le_refl _) hbel (Nat.le_refl _)) (by omega)
      have c0 : wr.cell? ⟨b, off + k * 2, none⟩ = some (.int .i64 (F k 0)) := hc k hlt 0 (by omega)
      have c1 : wr.cell? ⟨b, off + k * 2 + 1, none⟩ = some (.int .i64 (F k 1)) := hc k hlt 1 (by omega)
      clear hc
      go_wp2_with fail
      refine (toStep (F k 0) (F k 1) _).mono ?_
      rintro e w1 ⟨rfl, hb1⟩
      have hto1 : NsTo 2 97 w1 w.heap.size n (k * 2) F := hto.below hb1
      have hbel1 := hbel.trans (hb1.mono hbel.size)
      have hR := ((hto1.step (x := F k 0) (by rw [show (k * 2) / 2 = k by omega, show (k * 2) % 2 = 0 by omega])).step (x := F k 1) (by rw [show (k * 2 + 1) / 2 = k by omega, show (k * 2 + 1) % 2 = 1 by omega]))
      obtain ⟨f, hr1, _⟩ := hto1
      have d0 := hr1.cell (i := k * 2) (by omega)
      have e0 := hr1.frozen (k * 2)
      have d1 := hr1.cell (i := k * 2 + 1) (by omega)
      have e1 := hr1.frozen (k * 2 + 1)
      clear c0 c1 hto hr1
      go_wp2_with fail
      go_roundw
      case rel => exact ⟨k + 1, by omega, by go_num, by rw [show (k + 1) * 2 = k * 2 + 1 + 1 by omega]; exact hR, ((hbel1.setCell (Nat.le_refl _) _).setCell (Nat.le_refl _) _)⟩
      case measure => simp [intOf]; omega
    · obtain rfl : k = n := by omega
      go_wp2
      go_ret
      exact ⟨_, rfl, rfl, NsTo.own (by simpa using hto) (by simp [maxLen]; omega), hbel⟩

set_option maxHeartbeats 400000 in
theorem toLie (a0 a1 : Int) (w : World) :
    Calls Try.prog 52 #[.agg #[.int .i64 a0, .int .i64 a1]] w fun e w' => e = .returned (.agg #[.int .i64 a0, .int .i64 a1]) ∧ Below w.heap.size w w' := by
  go_enter Try.func52, Try.ntmps52
  go_wp2
  exact bodyPost_ret (v := .agg #[.int .i64 a0, .int .i64 a1]) (by simp [results, Try.results52, go_sem]) rfl ⟨rfl, bel3 _ _ _ _⟩

set_option maxHeartbeats 1000000 in
theorem toLieS (a : Option Addr) (n cap : Nat) (F : Nat → Nat → Int) (w : World) (hn : n ≤ 1048576) (hE : NsAt 2 0 w a n F) :
    Calls Try.prog 32 #[.slice a n cap] w fun e w' => ∃ b, b = w.heap.size ∧ e = .returned (.slice (some ⟨b, 0, none⟩) n n) ∧ Own b 62 2 w' (.slice (some ⟨b, 0, none⟩) n n) (lsF 2 n F) ∧ Below w.heap.size w w' := by
  have hmk := make_rows (P := Try.prog) 30 62 _ 16 2 Try.underlying30 infoLie n (by omega) (by omega)
  have hf0 := NsTo.new 2 62 w (.agg #[.int .i64 0, .int .i64 0]) n F
  go_enter Try.func32, Try.ntmps32
  go_wp2_with fail
  go_loopw [4] (fun i wr => ∃ (k : Nat), k ≤ n ∧ i = .int .i64 k ∧ NsTo 2 62 wr w.heap.size n (k * 2) F ∧ Below w.heap.size w wr) (fun i _ => n - (intOf i).toNat)
  case atStart => exact ⟨0, Nat.zero_le _, rfl, by first | exact hf0 | simpa only [Nat.mul_one] using hf0, bel1 _ _⟩
  case round =>
    obtain ⟨k, hk, rfl, hto, hbel⟩ := hrel
    clear hf0 hmk
    by_cases hlt : k < n
    · obtain ⟨b, off, rfl, _, hb, hc⟩ := (hE.mono (Nat.le_refl _) hbel (Nat.le_refl _)) (by omega)
      have c0 : wr.cell? ⟨b, off + k * 2, none⟩ = some (.int .i64 (F k 0)) := hc k hlt 0 (by omega)
      have c1 : wr.cell? ⟨b, off + k * 2 + 1, none⟩ = some (.int .i64 (F k 1)) := hc k hlt 1 (by omega)
      clear hc
      go_wp2_with fail
      refine (toLie (F k 0) (F k 1) _).mono ?_
      rintro e w1 ⟨rfl, hb1⟩
      have hto1 : NsTo 2 62 w1 w.heap.size n (k * 2) F := hto.below hb1
      have hbel1 := hbel.trans (hb1.mono hbel.size)
      have hR := ((hto1.step (x := F k 0) (by rw [show (k * 2) / 2 = k by omega, show (k * 2) % 2 = 0 by omega])).step (x := F k 1) (by rw [show (k * 2 + 1) / 2 = k by omega, show (k * 2 + 1) % 2 = 1 by omega]))
      obtain ⟨f, hr1, _⟩ := hto1
      have d0 := hr1.cell (i := k * 2) (by omega)
      have e0 := hr1.frozen (k * 2)
      have d1 := hr1.cell (i := k * 2 + 1) (by omega)
      have e1 := hr1.frozen (k * 2 + 1)
      clear c0 c1 hto hr1
      go_wp2_with fail
      go_roundw
      case rel => exact ⟨k + 1, by omega, by go_num, by rw [show (k + 1) * 2 = k * 2 + 1 + 1 by omega]; exact hR, ((hbel1.setCell (Nat.le_refl _) _).setCell (Nat.le_refl _) _)⟩
      case measure => simp [intOf]; omega
    · obtain rfl : k = n := by omega
      go_wp2
      go_ret
      exact ⟨_, rfl, rfl, NsTo.own (by simpa using hto) (by simp [maxLen]; omega), hbel⟩

set_option maxHeartbeats 1000000 in
theorem toIntS (a : Option Addr) (n cap : Nat) (F : Nat → Nat → Int) (w : World) (hn : n ≤ 1048576) (hE : NsAt 1 0 w a n F) :
    Calls Try.prog 33 #[.slice a n cap] w fun e w' => ∃ b, b = w.heap.size ∧ e = .returned (.slice (some ⟨b, 0, none⟩) n n) ∧ Own b 3 1 w' (.slice (some ⟨b, 0, none⟩) n n) (lsF 1 n F) ∧ Below w.heap.size w w' := by
  have hmk := make_rows (P := Try.prog) 24 3 _ 8 1 Try.underlying24 infoInt n (by omega) (by omega)
  have hf0 := NsTo.new 1 3 w (.int .i64 0) n F
  go_enter Try.func33, Try.ntmps33
  go_wp2_with fail
  go_loopw [4] (fun i wr => ∃ (k : Nat), k ≤ n ∧ i = .int .i64 k ∧ NsTo 1 3 wr w.heap.size n (k) F ∧ Below w.heap.size w wr) (fun i _ => n - (intOf i).toNat)
  case atStart => exact ⟨0, Nat.zero_le _, rfl, by first | exact hf0 | simpa only [Nat.mul_one] using hf0, bel1 _ _⟩
  case round =>
    obtain ⟨k, hk, rfl, hto, hbel⟩ := hrel
    clear hf0 hmk
    by_cases hlt : k < n
    · obtain ⟨b, off, rfl, _, hb, hc⟩ := (hE.mono (Nat.le_refl _) hbel (Nat.le_refl _)) (by omega)
      have c0 : wr.cell? ⟨b, off + k, none⟩ = some (.int .i64 (F k 0)) := by have := hc k hlt 0 (by omega); rwa [Nat.mul_one] at this
      clear hc
      have hto1 : NsTo 1 3 wr w.heap.size n (k) F := hto
      have hbel1 := hbel
      have hR := (hto1.step (x := F k 0) (by rw [show (k) / 1 = k by omega, show (k) % 1 = 0 by omega]))
      obtain ⟨f, hr1, _⟩ := hto1
      have d0 := hr1.cell (i := k) (by omega)
      have e0 := hr1.frozen (k)
      clear  hto hr1
      go_wp2_with fail
      go_roundw
      case rel => exact ⟨k + 1, by omega, by go_num, by rw [show k + 1 = k + 1 by omega]; exact hR, (hbel1.setCell (Nat.le_refl _) _)⟩
      case measure => simp [intOf]; omega
    · obtain rfl : k = n := by omega
      go_wp2
      go_ret
      exact ⟨_, rfl, rfl, NsTo.own (by simpa using hto) (by simp [maxLen]; omega), hbel⟩

set_option maxHeartbeats 400000 in
theorem toPart (a0 a1 a2 : Int) (w : World) :
    Calls Try.prog 53 #[.agg #[.int .i64 a0, .int .i64 a1, .int .i64 a2]] w fun e w' => e = .returned (.agg #[.int .i64 a0, .int .i64 a1, .int .i64 a2]) ∧ Below w.heap.size w w' := by
  go_enter Try.func53, Try.ntmps53
  go_wp2
  exact bodyPost_ret (v := .agg #[.int .i64 a0, .int .i64 a1, .int .i64 a2]) (by simp [results, Try.results53, go_sem]) rfl ⟨rfl, bel3 _ _ _ _⟩

set_option maxHeartbeats 1000000 in
theorem toPartS (a : Option Addr) (n cap : Nat) (F : Nat → Nat → Int) (w : World) (hn : n ≤ 1048576) (hE : NsAt 3 0 w a n F) :
    Calls Try.prog 34 #[.slice a n cap] w fun e w' => ∃ b, b = w.heap.size ∧ e = .returned (.slice (some ⟨b, 0, none⟩) n n) ∧ Own b 103 3 w' (.slice (some ⟨b, 0, none⟩) n n) (lsF 3 n F) ∧ Below w.heap.size w w' := by
  have hmk := make_rows (P := Try.prog) 33 103 _ 24 3 Try.underlying33 infoPart n (by omega) (by omega)
  have hf0 := NsTo.new 3 103 w (.agg #[.int .i64 0, .int .i64 0, .int .i64 0]) n F
  go_enter Try.func34, Try.ntmps34
  go_wp2_with fail
  go_loopw [4] (fun i wr => ∃ (k : Nat), k ≤ n ∧ i = .int .i64 k ∧ NsTo 3 103 wr w.heap.size n (k * 3) F ∧ Below w.heap.size w wr) (fun i _ => n - (intOf i).toNat)
  case atStart => exact ⟨0, Nat.zero_le _, rfl, by first | exact hf0 | simpa only [Nat.mul_one] using hf0, bel1 _ _⟩
  case round =>
    obtain ⟨k, hk, rfl, hto, hbel⟩ := hrel
    clear hf0 hmk
    by_cases hlt : k < n
    · obtain ⟨b, off, rfl, _, hb, hc⟩ := (hE.mono (Nat.le_refl _) hbel (Nat.le_refl _)) (by omega)
      have c0 : wr.cell? ⟨b, off + k * 3, none⟩ = some (.int .i64 (F k 0)) := hc k hlt 0 (by omega)
      have c1 : wr.cell? ⟨b, off + k * 3 + 1, none⟩ = some (.int .i64 (F k 1)) := hc k hlt 1 (by omega)
      have c2 : wr.cell? ⟨b, off + k * 3 + 2, none⟩ = some (.int .i64 (F k 2)) := hc k hlt 2 (by omega)
      clear hc
      go_wp2_with fail
      refine (toPart (F k 0) (F k 1) (F k 2) _).mono ?_
      rintro e w1 ⟨rfl, hb1⟩
      have hto1 : NsTo 3 103 w1 w.heap.size n (k * 3) F := hto.below hb1
      have hbel1 := hbel.trans (hb1.mono hbel.size)
      have hR := (((hto1.step (x := F k 0) (by rw [show (k * 3) / 3 = k by omega, show (k * 3) % 3 = 0 by omega])).step (x := F k 1) (by rw [show (k * 3 + 1) / 3 = k by omega, show (k * 3 + 1) % 3 = 1 by omega])).step (x := F k 2) (by rw [show (k * 3 + 2) / 3 = k by omega, show (k * 3 + 2) % 3 = 2 by omega]))
      obtain ⟨f, hr1, _⟩ := hto1
      have d0 := hr1.cell (i := k * 3) (by omega)
      have e0 := hr1.frozen (k * 3)
      have d1 := hr1.cell (i := k * 3 + 1) (by omega)
      have e1 := hr1.frozen (k * 3 + 1)
      have d2 := hr1.cell (i := k * 3 + 2) (by omega)
      have e2 := hr1.frozen (k * 3 + 2)
      clear c0 c1 c2 hto hr1
      go_wp2_with fail
      go_roundw
      case rel => exact ⟨k + 1, by omega, by go_num, by rw [show (k + 1) * 3 = k * 3 + 2 + 1 by omega]; exact hR, (((hbel1.setCell (Nat.le_refl _) _).setCell (Nat.le_refl _) _).setCell (Nat.le_refl _) _)⟩
      case measure => simp [intOf]; omega
    · obtain rfl : k = n := by omega
      go_wp2
      go_ret
      exact ⟨_, rfl, rfl, NsTo.own (by simpa using hto) (by simp [maxLen]; omega), hbel⟩

set_option maxHeartbeats 400000 in
theorem toFlank (a0 a1 a2 a3 : Int) (w : World) :
    Calls Try.prog 54 #[.agg #[.int .i64 a0, .int .i64 a1, .int .i64 a2, .int .i64 a3]] w fun e w' => e = .returned (.agg #[.int .i64 a0, .int .i64 a1, .int .i64 a2, .int .i64 a3]) ∧ Below w.heap.size w w' := by
  go_enter Try.func54, Try.ntmps54
  go_wp2
  exact bodyPost_ret (v := .agg #[.int .i64 a0, .int .i64 a1, .int .i64 a2, .int .i64 a3]) (by simp [results, Try.results54, go_sem]) rfl ⟨rfl, bel3 _ _ _ _⟩

set_option maxHeartbeats 1000000 in
theorem toFlankS (a : Option Addr) (n cap : Nat) (F : Nat → Nat → Int) (w : World) (hn : n ≤ 1048576) (hE : NsAt 4 0 w a n F) :
    Calls Try.prog 35 #[.slice a n cap] w fun e w' => ∃ b, b = w.heap.size ∧ e = .returned (.slice (some ⟨b, 0, none⟩) n n) ∧ Own b 64 4 w' (.slice (some ⟨b, 0, none⟩) n n) (lsF 4 n F) ∧ Below w.heap.size w w' := by
  have hmk := make_rows (P := Try.prog) 34 64 _ 32 4 Try.underlying34 infoFlank n (by omega) (by omega)
  have hf0 := NsTo.new 4 64 w (.agg #[.int .i64 0, .int .i64 0, .int .i64 0, .int .i64 0]) n F
  go_enter Try.func35, Try.ntmps35
  go_wp2_with fail
  go_loopw [4] (fun i wr => ∃ (k : Nat), k ≤ n ∧ i = .int .i64 k ∧ NsTo 4 64 wr w.heap.size n (k * 4) F ∧ Below w.heap.size w wr) (fun i _ => n - (intOf i).toNat)
  case atStart => exact ⟨0, Nat.zero_le _, rfl, by first | exact hf0 | simpa only [Nat.mul_one] using hf0, bel1 _ _⟩
  case round =>
    obtain ⟨k, hk, rfl, hto, hbel⟩ := hrel
    clear hf0 hmk
    by_cases hlt : k < n
    · obtain ⟨b, off, rfl, _, hb, hc⟩ := (hE.mono (Nat.le_refl _) hbel (Nat.le_refl _)) (by omega)
      have c0 : wr.cell? ⟨b, off + k * 4, none⟩ = some (.int .i64 (F k 0)) := hc k hlt 0 (by omega)
      have c1 : wr.cell? ⟨b, off + k * 4 + 1, none⟩ = some (.int .i64 (F k 1)) := hc k hlt 1 (by omega)
      have c2 : wr.cell? ⟨b, off + k * 4 + 2, none⟩ = some (.int .i64 (F k 2)) := hc k hlt 2 (by omega)
      have c3 : wr.cell? ⟨b, off + k * 4 + 3, none⟩ = some (.int .i64 (F k 3)) := hc k hlt 3 (by omega)
      clear hc
      go_wp2_with fail
      refine (toFlank (F k 0) (F k 1) (F k 2) (F k 3) _).mono ?_
      rintro e w1 ⟨rfl, hb1⟩
      have hto1 : NsTo 4 64 w1 w.heap.size n (k * 4) F := hto.below hb1
      have hbel1 := hbel.trans (hb1.mono hbel.size)
      have hR := ((((hto1.step (x := F k 0) (by rw [show (k * 4) / 4 = k by omega, show (k * 4) % 4 = 0 by omega])).step (x := F k 1) (by rw [show (k * 4 + 1) / 4 = k by omega, show (k * 4 + 1) % 4 = 1 by omega])).step (x := F k 2) (by rw [show (k * 4 + 2) / 4 = k by omega, show (k * 4 + 2) % 4 = 2 by omega])).step (x := F k 3) (by rw [show (k * 4 + 3) / 4 = k by omega, show (k * 4 + 3) % 4 = 3 by omega]))
      obtain ⟨f, hr1, _⟩ := hto1
      have d0 := hr1.cell (i := k * 4) (by omega)
      have e0 := hr1.frozen (k * 4)
      have d1 := hr1.cell (i := k * 4 + 1) (by omega)
      have e1 := hr1.frozen (k * 4 + 1)
      have d2 := hr1.cell (i := k * 4 + 2) (by omega)
      have e2 := hr1.frozen (k * 4 + 2)
      have d3 := hr1.cell (i := k * 4 + 3) (by omega)
      have e3 := hr1.frozen (k * 4 + 3)
      clear c0 c1 c2 c3 hto hr1
      go_wp2_with fail
      go_roundw
      case rel => exact ⟨k + 1, by omega, by go_num, by rw [show (k + 1) * 4 = k * 4 + 3 + 1 by omega]; exact hR, ((((hbel1.setCell (Nat.le_refl _) _).setCell (Nat.le_refl _) _).setCell (Nat.le_refl _) _).setCell (Nat.le_refl _) _)⟩
      case measure => simp [intOf]; omega
    · obtain rfl : k = n := by omega
      go_wp2
      go_ret
      exact ⟨_, rfl, rfl, NsTo.own (by simpa using hto) (by simp [maxLen]; omega), hbel⟩

end Go.Proofs.Ytpghgdnhfhdgmaa
