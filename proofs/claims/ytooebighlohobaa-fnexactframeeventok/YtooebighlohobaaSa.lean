import Derived.Test.YtooebighlohobaaMo
namespace Go.Proofs.Ytooebighlohobaa
open Go.RowKit

set_option maxHeartbeats 400000 in
theorem in24 (x a b : Int) (w : World) :
    Calls Try.prog 24 #[.int .i64 x, .int .i64 a, .int .i64 b] w fun e w' => e = .returned (.bool (inB x a b)) ∧ w' = w := by
  by_cases h1 : a ≤ x
  · by_cases h2 : x ≤ b
    · go_enter Try.func24, Try.ntmps24
      go_wp2
      go_ret
      exact ⟨by simp [inB, h1, h2], rfl⟩
    · go_enter Try.func24, Try.ntmps24
      go_wp2
      go_ret
      exact ⟨by simp [inB, h1, h2], rfl⟩
  · go_enter Try.func24, Try.ntmps24
    go_wp2
    go_ret
    exact ⟨by simp [inB]; omega, rfl⟩

set_option maxHeartbeats 400000 in
theorem within30 (x a b : Int) (w : World) :
    Calls Try.prog 30 #[.int .i64 x, .int .i64 a, .int .i64 b] w fun e w' => e = .returned (.bool (inB x a b)) ∧ w' = w := by
  by_cases h1 : a ≤ x
  · by_cases h2 : x ≤ b
    · go_enter Try.func30, Try.ntmps30
      go_wp2
      go_ret
      exact ⟨by simp [inB, h1, h2], rfl⟩
    · go_enter Try.func30, Try.ntmps30
      go_wp2
      go_ret
      exact ⟨by simp [inB, h1, h2], rfl⟩
  · go_enter Try.func30, Try.ntmps30
    go_wp2
    go_ret
    exact ⟨by simp [inB]; omega, rfl⟩

set_option maxHeartbeats 2000000 in
theorem list54 (a : Option Addr) (n cap : Nat) (S : Nat → Int) (m : Int) (w : World) (hn : n ≤ 1048576) (hm : 1 ≤ m) (hm2 : m ≤ 60) (hS : VsAt 1 0 w a n (oneF S)) :
    Calls Try.prog 54 #[.slice a n cap, .int .i64 m] w fun e w' => e = .returned (.bool (listF S n m)) ∧ w' = w := by
  have HS : Hid (VsAt 1 0 w a n (oneF S)) := hS
  clear hS
  go_enter Try.func54, Try.ntmps54
  go_wp2_with fail
  go_loop [10] (fun i => ∃ q : Nat, q ≤ n ∧ i = .int .i64 q ∧ Hid (∀ i, i < q → elF S m i = true)) (fun i => n - (intOf i).toNat)
  case atStart => exact ⟨0, Nat.zero_le _, rfl, fun i hi => absurd hi (Nat.not_lt_zero _)⟩
  case round =>
    obtain ⟨q, hq, rfl, HQ⟩ := hrel
    by_cases hlt : q < n
    · obtain ⟨b, off, rfl, _, hb, hc⟩ := HS.out (by omega)
      have c0 : w.cell? ⟨b, off + q, none⟩ = some (.int .i64 (S q)) := by have := hc q hlt 0 (by omega); rwa [Nat.mul_one] at this
      have HC : Hid (∀ r, r < n → w.cell? ⟨b, off + r, none⟩ = some (.int .i64 (S r))) := fun r hr => by have := hc r hr 0 (by omega); rwa [Nat.mul_one] at this
      clear hc
      have hq0 : (0 : Int) ≤ (q : Int) := by omega
      have hqn : (q : Int) < (n : Int) := by omega
      go_wp2_with fail
      refine (in24 (S q) 0 (m - 1) _).mono ?_
      rintro e w1 ⟨he, hw⟩
      have hw := hw.symm
      subst hw
      cases hB : inB (S q) 0 (m - 1) with
      | false =>
        rw [hB] at he
        subst he
        go_wp2_with fail
        go_ret
        exact ⟨by rw [listF, allB_no hlt (by simp [elF, hB])]; rfl, rfl⟩
      | true =>
        rw [hB] at he
        subst he
        go_wp2_with fail
        go_loop [7] (fun j => ∃ r : Nat, r ≤ q ∧ j = .int .i64 r ∧ Hid (∀ k, k < r → S k ≠ S q)) (fun j => q - (intOf j).toNat)
        case atStart => exact ⟨0, Nat.zero_le _, rfl, fun i hi => absurd hi (Nat.not_lt_zero _)⟩
        case round =>
          obtain ⟨r, hr, rfl, HR⟩ := hrel
          by_cases hrq : r < q
          · have c1 := HC.out r (by omega)
            have hr0 : (0 : Int) ≤ (r : Int) := by omega
            have hrn : (r : Int) < (n : Int) := by omega
            have hrq' : (r : Int) < (q : Int) := by omega
            by_cases he : S r = S q
            · go_wp2_with fail
              go_ret
              exact ⟨by rw [listF, allB_no hlt (by simp only [elF, hB, Bool.true_and]; exact allB_no hrq (by simp [he]))]; rfl, rfl⟩
            · have HR2 : Hid (∀ k, k < r + 1 → S k ≠ S q) := fun k hk => by
                by_cases e : k = r
                · subst e
                  exact he
                · exact HR.out k (by omega)
              go_wp2_with fail
              go_round
              case rel => exact ⟨r + 1, by omega, by go_num, HR2⟩
              case measure => simp [intOf]; omega
          · obtain rfl : r = q := by omega
            have HQ2 : Hid (∀ i, i < r + 1 → elF S m i = true) := fun i hi => by
              by_cases e : i = r
              · subst e
                simp only [elF, hB, Bool.true_and]
                exact allB_iff.2 fun k hk => by simpa using HR.out k hk
              · exact HQ.out i (by omega)
            go_wp2_with fail
            go_round
            case rel => exact ⟨r + 1, by omega, by go_num, HQ2⟩
            case measure => simp [intOf]; omega
    · obtain rfl : q = n := by omega
      have hA : allB (elF S m) q = true := allB_iff.2 HQ.out
      by_cases h30 : (q : Int) ≤ 30
      · go_wp2_with fail
        go_ret
        exact ⟨by rw [listF, hA]; simp; omega, rfl⟩
      · go_wp2_with fail
        go_ret
        exact ⟨by rw [listF, hA]; simp; omega, rfl⟩

set_option maxHeartbeats 2000000 in
theorem meet26 (a a' : Option Addr) (n m cap cap' : Nat) (A B : Nat → Int) (w : World) (hn : n ≤ 1048576) (hm : m ≤ 1048576) (hA : VsAt 1 0 w a n (oneF A)) (hB : VsAt 1 0 w a' m (oneF B)) :
    Calls Try.prog 26 #[.slice a n cap, .slice a' m cap'] w fun e w' => e = .returned (.bool (meetF A n B m)) ∧ w' = w := by
  have HA : Hid (VsAt 1 0 w a n (oneF A)) := hA
  have HB : Hid (VsAt 1 0 w a' m (oneF B)) := hB
  clear hA hB
  go_enter Try.func26, Try.ntmps26
  go_wp2_with fail
  go_loop [11] (fun i => ∃ q : Nat, q ≤ n ∧ i = .int .i64 q ∧ Hid (∀ i, i < q → anyB (fun j => decide (A i = B j)) m = false)) (fun i => n - (intOf i).toNat)
  case atStart => exact ⟨0, Nat.zero_le _, rfl, fun i hi => absurd hi (Nat.not_lt_zero _)⟩
  case round =>
    obtain ⟨q, hq, rfl, HQ⟩ := hrel
    by_cases hlt : q < n
    · obtain ⟨b, off, rfl, _, hb, hc⟩ := HA.out (by omega)
      have c0 : w.cell? ⟨b, off + q, none⟩ = some (.int .i64 (A q)) := by have := hc q hlt 0 (by omega); rwa [Nat.mul_one] at this
      clear hc
      have hq0 : (0 : Int) ≤ (q : Int) := by omega
      have hqn : (q : Int) < (n : Int) := by omega
      go_wp2_with fail
      go_loop [17] (fun j => ∃ r : Nat, r ≤ m ∧ j = .int .i64 r ∧ Hid (∀ k, k < r → A q ≠ B k)) (fun j => m - (intOf j).toNat)
      case atStart => exact ⟨0, Nat.zero_le _, rfl, fun i hi => absurd hi (Nat.not_lt_zero _)⟩
      case round =>
        obtain ⟨r, hr, rfl, HR⟩ := hrel
        by_cases hrm : r < m
        · obtain ⟨b', off', rfl, _, hb', hc'⟩ := HB.out (by omega)
          have c1 : w.cell? ⟨b', off' + r, none⟩ = some (.int .i64 (B r)) := by have := hc' r hrm 0 (by omega); rwa [Nat.mul_one] at this
          clear hc'
          have hr0 : (0 : Int) ≤ (r : Int) := by omega
          have hrn : (r : Int) < (m : Int) := by omega
          by_cases he : A q = B r
          · go_wp2_with fail
            go_ret
            have hM : meetF A n B m = true := anyB_yes (f := fun i => anyB (fun j => decide (A i = B j)) m) hlt (anyB_yes (f := fun j => decide (A q = B j)) hrm (by simp [he]))
            exact ⟨by rw [hM]; rfl, rfl⟩
          · have HR2 : Hid (∀ k, k < r + 1 → A q ≠ B k) := fun k hk => by
              by_cases e : k = r
              · subst e
                exact he
              · exact HR.out k (by omega)
            go_wp2_with fail
            go_round
            case rel => exact ⟨r + 1, by omega, by go_num, HR2⟩
            case measure => simp [intOf]; omega
        · obtain rfl : r = m := by omega
          have HQ2 : Hid (∀ i, i < q + 1 → anyB (fun j => decide (A i = B j)) r = false) := fun i hi => by
            by_cases e : i = q
            · subst e
              exact anyB_no fun k hk => by simpa using HR.out k hk
            · exact HQ.out i (by omega)
          go_wp2_with fail
          go_round
          case rel => exact ⟨q + 1, by omega, by go_num, HQ2⟩
          case measure => simp [intOf]; omega
    · obtain rfl : q = n := by omega
      go_wp2_with fail
      go_ret
      exact ⟨by rw [meetF, anyB_no HQ.out]; rfl, rfl⟩

end Go.Proofs.Ytooebighlohobaa
