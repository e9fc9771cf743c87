import Derived.Test.YtmcaohablpaknaaMk
namespace Go.Proofs.Ytmcaohablpaknaa
open Go.RowKit

set_option maxRecDepth 4000 in
set_option maxHeartbeats 4000000 in
theorem heldIntS (a : Option Addr) (n cap k b off : Nat) (w : World) (hn : n ≤ 1048576) (hk : k ≤ 1152921504606846976) (ha : 0 < n → a = some ⟨b, off, none⟩)
    (hm : ∀ i, i < n → ∀ j, j < 1 → w.cell? ⟨b, off + i * 1 + j, none⟩ = some (mkFIntS k i j)) :
    Calls Try.prog 19 #[.slice a n cap, .int .i64 k] w fun e w' => e = .returned (.int .i64 ((k + n * 1 : Nat) : Int)) ∧ w' = w := by
  have Hm : Hid (∀ i, i < n → ∀ j, j < 1 → w.cell? ⟨b, off + i * 1 + j, none⟩ = some (mkFIntS k i j)) := hm
  clear hm
  go_enter Try.func19, Try.ntmps19
  go_wp2_with fail
  go_loop [1, 5] (fun m i => ∃ q : Nat, q ≤ n ∧ i = .int .i64 q ∧ m = .int .i64 ((k + q * 1 : Nat) : Int)) (fun _ i => n - (intOf i).toNat)
  case atStart => exact ⟨0, Nat.zero_le _, rfl, by simp⟩
  case round =>
    obtain ⟨q, hq, rfl, rfl⟩ := hrel
    by_cases hlt : q < n
    · obtain rfl := ha (by omega)
      have d0 : w.cell? ⟨b, off + q, none⟩ = some (.int .i64 ((k + q : Nat) : Int)) := by have := Hm.out q hlt 0 (by omega); simpa [mkFIntS] using this
      go_wp2_with fail
      go_round
      case rel => exact ⟨q + 1, by omega, by go_num, by go_num⟩
      case measure => simp [intOf]; omega
    · obtain rfl : q = n := by omega
      go_wp2_with fail
      go_ret
      exact ⟨rfl, rfl⟩

set_option maxRecDepth 4000 in
set_option maxHeartbeats 4000000 in
theorem heldBoolS (a : Option Addr) (n cap k b off : Nat) (w : World) (hn : n ≤ 1048576) (hk : k ≤ 1152921504606846976) (ha : 0 < n → a = some ⟨b, off, none⟩)
    (hm : ∀ i, i < n → ∀ j, j < 1 → w.cell? ⟨b, off + i * 1 + j, none⟩ = some (mkFBoolS k i j)) :
    Calls Try.prog 50 #[.slice a n cap, .int .i64 k] w fun e w' => e = .returned (.int .i64 ((k + n * 1 : Nat) : Int)) ∧ w' = w := by
  have Hm : Hid (∀ i, i < n → ∀ j, j < 1 → w.cell? ⟨b, off + i * 1 + j, none⟩ = some (mkFBoolS k i j)) := hm
  clear hm
  go_enter Try.func50, Try.ntmps50
  go_wp2_with fail
  go_loop [1, 5] (fun m i => ∃ q : Nat, q ≤ n ∧ i = .int .i64 q ∧ m = .int .i64 ((k + q * 1 : Nat) : Int)) (fun _ i => n - (intOf i).toNat)
  case atStart => exact ⟨0, Nat.zero_le _, rfl, by simp⟩
  case round =>
    obtain ⟨q, hq, rfl, rfl⟩ := hrel
    by_cases hlt : q < n
    · obtain rfl := ha (by omega)
      have d0 : w.cell? ⟨b, off + q, none⟩ = some (.bool (((k + q : Nat) : Int) % 3 == 0)) := by have := Hm.out q hlt 0 (by omega); simpa [mkFBoolS] using this
      go_wp2_with fail
      go_round
      case rel => exact ⟨q + 1, by omega, by go_num, by go_num⟩
      case measure => simp [intOf]; omega
    · obtain rfl : q = n := by omega
      go_wp2_with fail
      go_ret
      exact ⟨rfl, rfl⟩

set_option maxRecDepth 4000 in
set_option maxHeartbeats 4000000 in
theorem heldSectionS (a : Option Addr) (n cap k b off : Nat) (w : World) (hn : n ≤ 1048576) (hk : k ≤ 1152921504606846976) (ha : 0 < n → a = some ⟨b, off, none⟩)
    (hm : ∀ i, i < n → ∀ j, j < 5 → w.cell? ⟨b, off + i * 5 + j, none⟩ = some (mkFSectionS k i j)) :
    Calls Try.prog 49 #[.slice a n cap, .int .i64 k] w fun e w' => e = .returned (.int .i64 ((k + n * 5 : Nat) : Int)) ∧ w' = w := by
  have Hm : Hid (∀ i, i < n → ∀ j, j < 5 → w.cell? ⟨b, off + i * 5 + j, none⟩ = some (mkFSectionS k i j)) := hm
  clear hm
  go_enter Try.func49, Try.ntmps49
  go_wp2_with fail
  go_loop [1, 5] (fun m i => ∃ q : Nat, q ≤ n ∧ i = .int .i64 q ∧ m = .int .i64 ((k + q * 5 : Nat) : Int)) (fun _ i => n - (intOf i).toNat)
  case atStart => exact ⟨0, Nat.zero_le _, rfl, by simp⟩
  case round =>
    obtain ⟨q, hq, rfl, rfl⟩ := hrel
    by_cases hlt : q < n
    · obtain rfl := ha (by omega)
      have d0 : w.cell? ⟨b, off + q * 5, none⟩ = some (.int .i64 ((k + q * 5 : Nat) : Int)) := Hm.out q hlt 0 (by omega)
      have d1 : w.cell? ⟨b, off + q * 5 + 1, none⟩ = some (.int .i64 ((k + q * 5 + 1 : Nat) : Int)) := Hm.out q hlt 1 (by omega)
      have d2 : w.cell? ⟨b, off + q * 5 + 2, none⟩ = some (.bool (((k : Int) + (q : Int) * 5 + 1 + 1) % 3 == 0)) := by have := Hm.out q hlt 2 (by omega); rw [this]; simp [mkFSectionS, Int.add_assoc]
      have d3 : w.cell? ⟨b, off + q * 5 + 3, none⟩ = some (.bool (((k : Int) + (q : Int) * 5 + 1 + 1 + 1) % 3 == 0)) := by have := Hm.out q hlt 3 (by omega); rw [this]; simp [mkFSectionS, Int.add_assoc]
      have d4 : w.cell? ⟨b, off + q * 5 + 4, none⟩ = some (.int .i64 ((k + q * 5 + 4 : Nat) : Int)) := Hm.out q hlt 4 (by omega)
      go_wp2_with fail
      go_round
      case rel => exact ⟨q + 1, by omega, by go_num, by go_num⟩
      case measure => simp [intOf]; omega
    · obtain rfl : q = n := by omega
      go_wp2_with fail
      go_ret
      exact ⟨rfl, rfl⟩


end Go.Proofs.Ytmcaohablpaknaa
