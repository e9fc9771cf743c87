import Derived.Test.YtmcaohablpaknaaMd
namespace Go.Proofs.Ytmcaohablpaknaa
open Go.RowKit

def mkFCounterS (k i j : Nat) : Value := match j with | 0 => .int .i64 ((k + i * 2 : Nat) : Int) | 1 => .int .i64 ((k + i * 2 + 1 : Nat) : Int) | _ => .int .i64 0
set_option maxRecDepth 4000 in
set_option maxHeartbeats 4000000 in
theorem markCounterS (a : Option Addr) (n cap k b off : Nat) (w : World) (hn : n ≤ 1048576) (hk : k ≤ 1152921504606846976) (ha : 0 < n → a = some ⟨b, off, none⟩)
    (hw : ∀ o, off ≤ o → o < off + n * 2 → (∃ v, w.cell? ⟨b, o, none⟩ = some v) ∧ w.frozen? ⟨b, o, none⟩ = false) :
    Calls Try.prog 44 #[.slice a n cap, .int .i64 k] w fun e w' => e = .returned (.int .i64 ((k + n * 2 : Nat) : Int)) ∧ Within b off (off + n * 2) w w' ∧ ∀ i, i < n → ∀ j, j < 2 → w'.cell? ⟨b, off + i * 2 + j, none⟩ = some (mkFCounterS k i j) := by
  have Hw : Hid (∀ o, off ≤ o → o < off + n * 2 → (∃ v, w.cell? ⟨b, o, none⟩ = some v) ∧ w.frozen? ⟨b, o, none⟩ = false) := hw
  clear hw
  go_enter Try.func44, Try.ntmps44
  go_wp2_with fail
  go_loopw [1, 5] (fun m i wr => ∃ q : Nat, q ≤ n ∧ i = .int .i64 q ∧ m = .int .i64 ((k + q * 2 : Nat) : Int) ∧ Hid (∀ o, off + q * 2 ≤ o → wr.cell? ⟨b, o, none⟩ = w.cell? ⟨b, o, none⟩) ∧
      Hid (∀ i, i < q → ∀ j, j < 2 → wr.cell? ⟨b, off + i * 2 + j, none⟩ = some (mkFCounterS k i j)) ∧ Within b off (off + n * 2) w wr) (fun _ i _ => n - (intOf i).toNat)
  case atStart => exact ⟨0, Nat.zero_le _, rfl, by simp, fun _ _ => rfl, fun i hi => absurd hi (Nat.not_lt_zero _), Within.refl _ _ _ _⟩
  case round =>
    obtain ⟨q, hq, rfl, rfl, hsame0, hmk, hW⟩ := hrel
    by_cases hlt : q < n
    · obtain rfl := ha (by omega)
      have hsame := hsame0.out
      have d0' := hsame (off + q * 2) (by omega)
      obtain ⟨v0, hv0⟩ := (Hw.out (off + q * 2) (by omega) (by omega)).1
      have d0 : wr.cell? ⟨b, off + q * 2, none⟩ = some v0 := d0'.trans hv0
      have e0 : wr.frozen? ⟨b, off + q * 2, none⟩ = false := (hW.frozen _).trans (Hw.out (off + q * 2) (by omega) (by omega)).2
      have d1' := hsame (off + q * 2 + 1) (by omega)
      obtain ⟨v1, hv1⟩ := (Hw.out (off + q * 2 + 1) (by omega) (by omega)).1
      have d1 : wr.cell? ⟨b, off + q * 2 + 1, none⟩ = some v1 := d1'.trans hv1
      have e1 : wr.frozen? ⟨b, off + q * 2 + 1, none⟩ = false := (hW.frozen _).trans (Hw.out (off + q * 2 + 1) (by omega) (by omega)).2
      have HW : Hid (Within b off (off + n * 2) w wr) := hW
      clear hsame hW d0' hv0 d1' hv1
      go_wp2_with fail
      go_roundw
      case rel =>
        refine ⟨q + 1, by omega, by go_num, by go_num, fun o ho => ?_, fun i hi j hj => ?_, (((HW.out).set (by omega) (by omega) _).set (by omega) (by omega) _)⟩
        · rw [cset_ne _ _ _ _ _ _ (by omega)]; rw [cset_ne _ _ _ _ _ _ (by omega)]; exact hsame0.out o (by omega)
        · by_cases e : i = q
          · subst e
            rcases (show j = 0 ∨ j = 1 by omega) with rfl | rfl
            · rw [cset_ne _ _ _ _ _ _ (by omega)]; simp only [Nat.add_zero]; rw [cset_same (u := v0) d0]; simp only [mkFCounterS]; (first | rfl | simp | simp [Int.add_assoc] | (congr 1; omega))
            · rw [cset_same (u := v1) (by rw [cset_ne _ _ _ _ _ _ (by omega)]; exact d1)]; simp only [mkFCounterS]; (first | rfl | simp | simp [Int.add_assoc] | (congr 1; omega))
          · rw [cset_ne _ _ _ _ _ _ (by omega)]; rw [cset_ne _ _ _ _ _ _ (by omega)]; exact hmk.out i (by omega) j hj
      case measure => simp [intOf]; omega
    · obtain rfl : q = n := by omega
      go_wp2_with fail
      go_ret
      exact ⟨rfl, hW, hmk.out⟩

def mkFIntS (k i _j : Nat) : Value := .int .i64 ((k + i * 1 : Nat) : Int)
set_option maxRecDepth 4000 in
set_option maxHeartbeats 4000000 in
theorem markIntS (a : Option Addr) (n cap k b off : Nat) (w : World) (hn : n ≤ 1048576) (hk : k ≤ 1152921504606846976) (ha : 0 < n → a = some ⟨b, off, none⟩)
    (hw : ∀ o, off ≤ o → o < off + n * 1 → (∃ v, w.cell? ⟨b, o, none⟩ = some v) ∧ w.frozen? ⟨b, o, none⟩ = false) :
    Calls Try.prog 18 #[.slice a n cap, .int .i64 k] w fun e w' => e = .returned (.int .i64 ((k + n * 1 : Nat) : Int)) ∧ Within b off (off + n * 1) w w' ∧ ∀ i, i < n → ∀ j, j < 1 → w'.cell? ⟨b, off + i * 1 + j, none⟩ = some (mkFIntS k i j) := by
  have Hw : Hid (∀ o, off ≤ o → o < off + n * 1 → (∃ v, w.cell? ⟨b, o, none⟩ = some v) ∧ w.frozen? ⟨b, o, none⟩ = false) := hw
  clear hw
  go_enter Try.func18, Try.ntmps18
  go_wp2_with fail
  go_loopw [1, 5] (fun m i wr => ∃ q : Nat, q ≤ n ∧ i = .int .i64 q ∧ m = .int .i64 ((k + q * 1 : Nat) : Int) ∧ Hid (∀ o, off + q * 1 ≤ o → wr.cell? ⟨b, o, none⟩ = w.cell? ⟨b, o, none⟩) ∧
      Hid (∀ i, i < q → ∀ j, j < 1 → wr.cell? ⟨b, off + i * 1 + j, none⟩ = some (mkFIntS k i j)) ∧ Within b off (off + n * 1) w wr) (fun _ i _ => n - (intOf i).toNat)
  case atStart => exact ⟨0, Nat.zero_le _, rfl, by simp, fun _ _ => rfl, fun i hi => absurd hi (Nat.not_lt_zero _), Within.refl _ _ _ _⟩
  case round =>
    obtain ⟨q, hq, rfl, rfl, hsame0, hmk, hW⟩ := hrel
    by_cases hlt : q < n
    · obtain rfl := ha (by omega)
      have hsame := hsame0.out
      have d0' := hsame (off + q) (by omega)
      obtain ⟨v0, hv0⟩ := (Hw.out (off + q) (by omega) (by omega)).1
      have d0 : wr.cell? ⟨b, off + q, none⟩ = some v0 := d0'.trans hv0
      have e0 : wr.frozen? ⟨b, off + q, none⟩ = false := (hW.frozen _).trans (Hw.out (off + q) (by omega) (by omega)).2
      have HW : Hid (Within b off (off + n * 1) w wr) := hW
      clear hsame hW d0' hv0
      go_wp2_with fail
      go_roundw
      case rel =>
        refine ⟨q + 1, by omega, by go_num, by go_num, fun o ho => ?_, fun i hi j hj => ?_, ((HW.out).set (by omega) (by omega) _)⟩
        · rw [cset_ne _ _ _ _ _ _ (by omega)]; exact hsame0.out o (by omega)
        · by_cases e : i = q
          · subst e
            obtain rfl : j = 0 := by omega
            rw [show off + i * 1 + 0 = off + i by omega, cset_same d0]
            simp only [mkFIntS]; (first | rfl | simp | simp [Int.add_assoc] | (congr 1; omega))
          · rw [cset_ne _ _ _ _ _ _ (by omega)]; exact hmk.out i (by omega) j hj
      case measure => simp [intOf]; omega
    · obtain rfl : q = n := by omega
      go_wp2_with fail
      go_ret
      exact ⟨rfl, hW, hmk.out⟩

def mkFBoolS (k i _j : Nat) : Value := .bool (((k + i * 1 : Nat) : Int) % 3 == 0)
set_option maxRecDepth 4000 in
set_option maxHeartbeats 4000000 in
theorem markBoolS (a : Option Addr) (n cap k b off : Nat) (w : World) (hn : n ≤ 1048576) (hk : k ≤ 1152921504606846976) (ha : 0 < n → a = some ⟨b, off, none⟩)
    (hw : ∀ o, off ≤ o → o < off + n * 1 → (∃ v, w.cell? ⟨b, o, none⟩ = some v) ∧ w.frozen? ⟨b, o, none⟩ = false) :
    Calls Try.prog 48 #[.slice a n cap, .int .i64 k] w fun e w' => e = .returned (.int .i64 ((k + n * 1 : Nat) : Int)) ∧ Within b off (off + n * 1) w w' ∧ ∀ i, i < n → ∀ j, j < 1 → w'.cell? ⟨b, off + i * 1 + j, none⟩ = some (mkFBoolS k i j) := by
  have Hw : Hid (∀ o, off ≤ o → o < off + n * 1 → (∃ v, w.cell? ⟨b, o, none⟩ = some v) ∧ w.frozen? ⟨b, o, none⟩ = false) := hw
  clear hw
  go_enter Try.func48, Try.ntmps48
  go_wp2_with fail
  go_loopw [1, 5] (fun m i wr => ∃ q : Nat, q ≤ n ∧ i = .int .i64 q ∧ m = .int .i64 ((k + q * 1 : Nat) : Int) ∧ Hid (∀ o, off + q * 1 ≤ o → wr.cell? ⟨b, o, none⟩ = w.cell? ⟨b, o, none⟩) ∧
      Hid (∀ i, i < q → ∀ j, j < 1 → wr.cell? ⟨b, off + i * 1 + j, none⟩ = some (mkFBoolS k i j)) ∧ Within b off (off + n * 1) w wr) (fun _ i _ => n - (intOf i).toNat)
  case atStart => exact ⟨0, Nat.zero_le _, rfl, by simp, fun _ _ => rfl, fun i hi => absurd hi (Nat.not_lt_zero _), Within.refl _ _ _ _⟩
  case round =>
    obtain ⟨q, hq, rfl, rfl, hsame0, hmk, hW⟩ := hrel
    by_cases hlt : q < n
    · obtain rfl := ha (by omega)
      have hsame := hsame0.out
      have d0' := hsame (off + q) (by omega)
      obtain ⟨v0, hv0⟩ := (Hw.out (off + q) (by omega) (by omega)).1
      have d0 : wr.cell? ⟨b, off + q, none⟩ = some v0 := d0'.trans hv0
      have e0 : wr.frozen? ⟨b, off + q, none⟩ = false := (hW.frozen _).trans (Hw.out (off + q) (by omega) (by omega)).2
      have HW : Hid (Within b off (off + n * 1) w wr) := hW
      clear hsame hW d0' hv0
      go_wp2_with fail
      go_roundw
      case rel =>
        refine ⟨q + 1, by omega, by go_num, by go_num, fun o ho => ?_, fun i hi j hj => ?_, ((HW.out).set (by omega) (by omega) _)⟩
        · rw [cset_ne _ _ _ _ _ _ (by omega)]; exact hsame0.out o (by omega)
        · by_cases e : i = q
          · subst e
            obtain rfl : j = 0 := by omega
            rw [show off + i * 1 + 0 = off + i by omega, cset_same d0]
            simp only [mkFBoolS]; (first | rfl | simp | simp [Int.add_assoc] | (congr 1; omega))
          · rw [cset_ne _ _ _ _ _ _ (by omega)]; exact hmk.out i (by omega) j hj
      case measure => simp [intOf]; omega
    · obtain rfl : q = n := by omega
      go_wp2_with fail
      go_ret
      exact ⟨rfl, hW, hmk.out⟩

def mkFSectionS (k i j : Nat) : Value := match j with | 0 => .int .i64 ((k + i * 5 : Nat) : Int) | 1 => .int .i64 ((k + i * 5 + 1 : Nat) : Int) | 2 => .bool (((k + i * 5 + 2 : Nat) : Int) % 3 == 0) | 3 => .bool (((k + i * 5 + 3 : Nat) : Int) % 3 == 0) | 4 => .int .i64 ((k + i * 5 + 4 : Nat) : Int) | _ => .int .i64 0
set_option maxRecDepth 4000 in
set_option maxHeartbeats 4000000 in
theorem markSectionS (a : Option Addr) (n cap k b off : Nat) (w : World) (hn : n ≤ 1048576) (hk : k ≤ 1152921504606846976) (ha : 0 < n → a = some ⟨b, off, none⟩)
    (hw : ∀ o, off ≤ o → o < off + n * 5 → (∃ v, w.cell? ⟨b, o, none⟩ = some v) ∧ w.frozen? ⟨b, o, none⟩ = false) :
    Calls Try.prog 47 #[.slice a n cap, .int .i64 k] w fun e w' => e = .returned (.int .i64 ((k + n * 5 : Nat) : Int)) ∧ Within b off (off + n * 5) w w' ∧ ∀ i, i < n → ∀ j, j < 5 → w'.cell? ⟨b, off + i * 5 + j, none⟩ = some (mkFSectionS k i j) := by
  have Hw : Hid (∀ o, off ≤ o → o < off + n * 5 → (∃ v, w.cell? ⟨b, o, none⟩ = some v) ∧ w.frozen? ⟨b, o, none⟩ = false) := hw
  clear hw
  go_enter Try.func47, Try.ntmps47
  go_wp2_with fail
  go_loopw [1, 5] (fun m i wr => ∃ q : Nat, q ≤ n ∧ i = .int .i64 q ∧ m = .int .i64 ((k + q * 5 : Nat) : Int) ∧ Hid (∀ o, off + q * 5 ≤ o → wr.cell? ⟨b, o, none⟩ = w.cell? ⟨b, o, none⟩) ∧
      Hid (∀ i, i < q → ∀ j, j < 5 → wr.cell? ⟨b, off + i * 5 + j, none⟩ = some (mkFSectionS k i j)) ∧ Within b off (off + n * 5) w wr) (fun _ i _ => n - (intOf i).toNat)
  case atStart => exact ⟨0, Nat.zero_le _, rfl, by simp, fun _ _ => rfl, fun i hi => absurd hi (Nat.not_lt_zero _), Within.refl _ _ _ _⟩
  case round =>
    obtain ⟨q, hq, rfl, rfl, hsame0, hmk, hW⟩ := hrel
    by_cases hlt : q < n
    · obtain rfl := ha (by omega)
      have hsame := hsame0.out
      have d0' := hsame (off + q * 5) (by omega)
      obtain ⟨v0, hv0⟩ := (Hw.out (off + q * 5) (by omega) (by omega)).1
      have d0 : wr.cell? ⟨b, off + q * 5, none⟩ = some v0 := d0'.trans hv0
      have e0 : wr.frozen? ⟨b, off + q * 5, none⟩ = false := (hW.frozen _).trans (Hw.out (off + q * 5) (by omega) (by omega)).2
      have d1' := hsame (off + q * 5 + 1) (by omega)
      obtain ⟨v1, hv1⟩ := (Hw.out (off + q * 5 + 1) (by omega) (by omega)).1
      have d1 : wr.cell? ⟨b, off + q * 5 + 1, none⟩ = some v1 := d1'.trans hv1
      have e1 : wr.frozen? ⟨b, off + q * 5 + 1, none⟩ = false := (hW.frozen _).trans (Hw.out (off + q * 5 + 1) (by omega) (by omega)).2
      have d2' := hsame (off + q * 5 + 2) (by omega)
      obtain ⟨v2, hv2⟩ := (Hw.out (off + q * 5 + 2) (by omega) (by omega)).1
      have d2 : wr.cell? ⟨b, off + q * 5 + 2, none⟩ = some v2 := d2'.trans hv2
      have e2 : wr.frozen? ⟨b, off + q * 5 + 2, none⟩ = false := (hW.frozen _).trans (Hw.out (off + q * 5 + 2) (by omega) (by omega)).2
      have d3' := hsame (off + q * 5 + 3) (by omega)
      obtain ⟨v3, hv3⟩ := (Hw.out (off + q * 5 + 3) (by omega) (by omega)).1
      have d3 : wr.cell? ⟨b, off + q * 5 + 3, none⟩ = some v3 := d3'.trans hv3
      have e3 : wr.frozen? ⟨b, off + q * 5 + 3, none⟩ = false := (hW.frozen _).trans (Hw.out (off + q * 5 + 3) (by omega) (by omega)).2
      have d4' := hsame (off + q * 5 + 4) (by omega)
      obtain ⟨v4, hv4⟩ := (Hw.out (off + q * 5 + 4) (by omega) (by omega)).1
      have d4 : wr.cell? ⟨b, off + q * 5 + 4, none⟩ = some v4 := d4'.trans hv4
      have e4 : wr.frozen? ⟨b, off + q * 5 + 4, none⟩ = false := (hW.frozen _).trans (Hw.out (off + q * 5 + 4) (by omega) (by omega)).2
      have HW : Hid (Within b off (off + n * 5) w wr) := hW
      clear hsame hW d0' hv0 d1' hv1 d2' hv2 d3' hv3 d4' hv4
      go_wp2_with fail
      go_roundw
      case rel =>
        refine ⟨q + 1, by omega, by go_num, by go_num, fun o ho => ?_, fun i hi j hj => ?_, ((((((HW.out).set (by omega) (by omega) _).set (by omega) (by omega) _).set (by omega) (by omega) _).set (by omega) (by omega) _).set (by omega) (by omega) _)⟩
        · rw [cset_ne _ _ _ _ _ _ (by omega)]; rw [cset_ne _ _ _ _ _ _ (by omega)]; rw [cset_ne _ _ _ _ _ _ (by omega)]; rw [cset_ne _ _ _ _ _ _ (by omega)]; rw [cset_ne _ _ _ _ _ _ (by omega)]; exact hsame0.out o (by omega)
        · by_cases e : i = q
          · subst e
            rcases (show j = 0 ∨ j = 1 ∨ j = 2 ∨ j = 3 ∨ j = 4 by omega) with rfl | rfl | rfl | rfl | rfl
            · rw [cset_ne _ _ _ _ _ _ (by omega)]; rw [cset_ne _ _ _ _ _ _ (by omega)]; rw [cset_ne _ _ _ _ _ _ (by omega)]; rw [cset_ne _ _ _ _ _ _ (by omega)]; simp only [Nat.add_zero]; rw [cset_same (u := v0) d0]; simp only [mkFSectionS]; (first | rfl | simp | simp [Int.add_assoc] | (congr 1; omega))
            · rw [cset_ne _ _ _ _ _ _ (by omega)]; rw [cset_ne _ _ _ _ _ _ (by omega)]; rw [cset_ne _ _ _ _ _ _ (by omega)]; rw [cset_same (u := v1) (by rw [cset_ne _ _ _ _ _ _ (by omega)]; exact d1)]; simp only [mkFSectionS]; (first | rfl | simp | simp [Int.add_assoc] | (congr 1; omega))
            · rw [cset_ne _ _ _ _ _ _ (by omega)]; rw [cset_ne _ _ _ _ _ _ (by omega)]; rw [cset_same (u := v2) (by rw [cset_ne _ _ _ _ _ _ (by omega)]; rw [cset_ne _ _ _ _ _ _ (by omega)]; exact d2)]; simp only [mkFSectionS]; (first | rfl | simp | simp [Int.add_assoc] | (congr 1; omega))
            · rw [cset_ne _ _ _ _ _ _ (by omega)]; rw [cset_same (u := v3) (by rw [cset_ne _ _ _ _ _ _ (by omega)]; rw [cset_ne _ _ _ _ _ _ (by omega)]; rw [cset_ne _ _ _ _ _ _ (by omega)]; exact d3)]; simp only [mkFSectionS]; (first | rfl | simp | simp [Int.add_assoc] | (congr 1; omega))
            · rw [cset_same (u := v4) (by rw [cset_ne _ _ _ _ _ _ (by omega)]; rw [cset_ne _ _ _ _ _ _ (by omega)]; rw [cset_ne _ _ _ _ _ _ (by omega)]; rw [cset_ne _ _ _ _ _ _ (by omega)]; exact d4)]; simp only [mkFSectionS]; (first | rfl | simp | simp [Int.add_assoc] | (congr 1; omega))
          · rw [cset_ne _ _ _ _ _ _ (by omega)]; rw [cset_ne _ _ _ _ _ _ (by omega)]; rw [cset_ne _ _ _ _ _ _ (by omega)]; rw [cset_ne _ _ _ _ _ _ (by omega)]; rw [cset_ne _ _ _ _ _ _ (by omega)]; exact hmk.out i (by omega) j hj
      case measure => simp [intOf]; omega
    · obtain rfl : q = n := by omega
      go_wp2_with fail
      go_ret
      exact ⟨rfl, hW, hmk.out⟩


end Go.Proofs.Ytmcaohablpaknaa
