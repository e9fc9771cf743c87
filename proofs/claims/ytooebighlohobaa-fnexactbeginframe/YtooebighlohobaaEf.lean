import Derived.Test.YtooebighlohobaaMd
namespace Go.Proofs.Ytooebighlohobaa
open Go.RowKit

theorem eqTurn (a0 a1 : Int) (w : World) :
    Calls Try.prog 76 #[.agg #[.int .i64 a0, .int .i64 a1], .agg #[.int .i64 a0, .int .i64 a1]] w fun e w' => e = .returned (.bool true) ∧ Below w.heap.size w w' := by
  go_enter Try.func76, Try.ntmps76
  go_wp2
  go_ret
  exact ⟨rfl, bel2 _ _ _⟩

set_option maxHeartbeats 1000000 in
theorem eqTurnS (a a' : Option Addr) (n cap cap' : Nat) (F : Nat → Nat → Int) (w : World) (hn : n ≤ 1048576) (hE : VsAt 2 0 w a n (intF F)) (hE' : VsAt 2 0 w a' n (intF F)) :
    Calls Try.prog 73 #[.slice a n cap, .slice a' n cap'] w fun e w' => e = .returned (.bool true) ∧ Below w.heap.size w w' := by
  go_enter Try.func73, Try.ntmps73
  go_wp2_with fail
  go_loopw [5] (fun i wr => ∃ (k : Nat), k ≤ n ∧ i = .int .i64 k ∧ Below w.heap.size w wr) (fun i _ => n - (intOf i).toNat)
  case atStart => exact ⟨0, Nat.zero_le _, rfl, Below.refl _ _⟩
  case round =>
    obtain ⟨k, hk, rfl, hbel⟩ := hrel
    by_cases hlt : k < n
    · obtain ⟨b, off, rfl, _, hb, hc⟩ := (hE.mono (Nat.le_refl _) hbel (Nat.le_refl _)) (by omega)
      obtain ⟨b', off', rfl, _, hb', hc'⟩ := (hE'.mono (Nat.le_refl _) hbel (Nat.le_refl _)) (by omega)
      have c0 : wr.cell? ⟨b, off + k * 2, none⟩ = some (.int .i64 (F k 0)) := hc k hlt 0 (by omega)
      have c1 : wr.cell? ⟨b, off + k * 2 + 1, none⟩ = some (.int .i64 (F k 1)) := hc k hlt 1 (by omega)
      have d0 : wr.cell? ⟨b', off' + k * 2, none⟩ = some (.int .i64 (F k 0)) := hc' k hlt 0 (by omega)
      have d1 : wr.cell? ⟨b', off' + k * 2 + 1, none⟩ = some (.int .i64 (F k 1)) := hc' k hlt 1 (by omega)
      have hlt' : (k : Int) < (n : Int) := by omega
      have hk0 : (0 : Int) ≤ (k : Int) := by omega
      clear hc hc'
      go_wp2_with fail
      go_region_with (go_at_call 76; refine (eqTurn (F k 0) (F k 1) _).mono ?_; rintro e w1 ⟨rfl, hb1⟩)
      all_goals
        go_wp2_with fail
        go_roundw
        case rel => exact ⟨k + 1, by omega, by go_num, hbel.drew.trans (hb1.mono hbel.drew.size)⟩
        case measure => simp [intOf]; omega
    · go_wp2
      go_ret
      exact ⟨rfl, hbel⟩

set_option maxHeartbeats 1000000 in
theorem eqBoolS (a a' : Option Addr) (n cap cap' : Nat) (D : Nat → Bool) (w : World) (hn : n ≤ 1048576) (hE : VsAt 1 0 w a n (boolF D)) (hE' : VsAt 1 0 w a' n (boolF D)) :
    Calls Try.prog 38 #[.slice a n cap, .slice a' n cap'] w fun e w' => e = .returned (.bool true) ∧ Below w.heap.size w w' := by
  go_enter Try.func38, Try.ntmps38
  go_wp2_with fail
  go_loopw [5] (fun i wr => ∃ (k : Nat), k ≤ n ∧ i = .int .i64 k ∧ Below w.heap.size w wr) (fun i _ => n - (intOf i).toNat)
  case atStart => exact ⟨0, Nat.zero_le _, rfl, Below.refl _ _⟩
  case round =>
    obtain ⟨k, hk, rfl, hbel⟩ := hrel
    by_cases hlt : k < n
    · obtain ⟨b, off, rfl, _, hb, hc⟩ := (hE.mono (Nat.le_refl _) hbel (Nat.le_refl _)) (by omega)
      obtain ⟨b', off', rfl, _, hb', hc'⟩ := (hE'.mono (Nat.le_refl _) hbel (Nat.le_refl _)) (by omega)
      have c0 : wr.cell? ⟨b, off + k, none⟩ = some (.bool (D k)) := by have := hc k hlt 0 (by omega); rwa [Nat.mul_one] at this
      have d0 : wr.cell? ⟨b', off' + k, none⟩ = some (.bool (D k)) := by have := hc' k hlt 0 (by omega); rwa [Nat.mul_one] at this
      have hlt' : (k : Int) < (n : Int) := by omega
      have hk0 : (0 : Int) ≤ (k : Int) := by omega
      clear hc hc'
      go_wp2_with fail
      go_quiet (fail)
      go_wp2_with fail
      go_roundw
      case rel => exact ⟨k + 1, by omega, by go_num, below_drewN hbel _⟩
      case measure => simp [intOf]; omega
    · go_wp2
      go_ret
      exact ⟨rfl, hbel⟩

set_option maxHeartbeats 1000000 in
theorem eqIntS (a a' : Option Addr) (n cap cap' : Nat) (F : Nat → Nat → Int) (w : World) (hn : n ≤ 1048576) (hE : VsAt 1 0 w a n (intF F)) (hE' : VsAt 1 0 w a' n (intF F)) :
    Calls Try.prog 33 #[.slice a n cap, .slice a' n cap'] w fun e w' => e = .returned (.bool true) ∧ Below w.heap.size w w' := by
  go_enter Try.func33, Try.ntmps33
  go_wp2_with fail
  go_loopw [5] (fun i wr => ∃ (k : Nat), k ≤ n ∧ i = .int .i64 k ∧ Below w.heap.size w wr) (fun i _ => n - (intOf i).toNat)
  case atStart => exact ⟨0, Nat.zero_le _, rfl, Below.refl _ _⟩
  case round =>
    obtain ⟨k, hk, rfl, hbel⟩ := hrel
    by_cases hlt : k < n
    · obtain ⟨b, off, rfl, _, hb, hc⟩ := (hE.mono (Nat.le_refl _) hbel (Nat.le_refl _)) (by omega)
      obtain ⟨b', off', rfl, _, hb', hc'⟩ := (hE'.mono (Nat.le_refl _) hbel (Nat.le_refl _)) (by omega)
      have c0 : wr.cell? ⟨b, off + k, none⟩ = some (.int .i64 (F k 0)) := by have := hc k hlt 0 (by omega); rwa [Nat.mul_one] at this
      have d0 : wr.cell? ⟨b', off' + k, none⟩ = some (.int .i64 (F k 0)) := by have := hc' k hlt 0 (by omega); rwa [Nat.mul_one] at this
      have hlt' : (k : Int) < (n : Int) := by omega
      have hk0 : (0 : Int) ≤ (k : Int) := by omega
      clear hc hc'
      go_wp2_with fail
      go_quiet (fail)
      go_wp2_with fail
      go_roundw
      case rel => exact ⟨k + 1, by omega, by go_num, below_drewN hbel _⟩
      case measure => simp [intOf]; omega
    · go_wp2
      go_ret
      exact ⟨rfl, hbel⟩


end Go.Proofs.Ytooebighlohobaa
