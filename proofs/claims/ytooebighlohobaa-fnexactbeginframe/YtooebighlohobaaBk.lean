import Derived.Test.YtooebighlohobaaBe
namespace Go.Proofs.Ytooebighlohobaa
open Go.RowKit

/-- the mark of a truth -/
def trM (x : Int) : Bool := x.tmod 3 == 0
theorem VOwn.store1 {B : Nat} {e : TypeId} {w : World} {g cap n : Nat} {F G : Nat → Nat → Value} (h : VOwn B e 1 w (.slice (some ⟨g, 0, none⟩) n cap) n F) {i : Nat} (hi : i < n) (u : Value) (hG : ∀ i', i' < n → upd F i 0 u i' 0 = G i' 0) : VOwn B e 1 (w.setCell ⟨g, i, none⟩ u) (.slice (some ⟨g, 0, none⟩) n cap) n G := by
  have := h.store hi (j := 0) (by omega) u
  rw [Nat.mul_one, Nat.add_zero] at this
  exact this.congr fun i' hi' j' hj' => by
    obtain rfl : j' = 0 := by omega
    exact hG i' hi'
set_option maxHeartbeats 2000000 in
theorem mark44 (B : Nat) (a : Option Addr) (n c : Nat) (F : Nat → Bool) (k : Nat) (w : World) (hn : n ≤ 1048576) (hk : k ≤ 100000000000000) (hQ : VOwn B 4 1 w (.slice a n c) n (boolF F)) :
    Calls Try.prog 44 #[.slice a n c, .int .i64 (k : Int)] w fun e w' => e = .returned (.int .i64 ((k + n : Nat) : Int)) ∧ VOwn B 4 1 w' (.slice a n c) n (boolF fun j => trM ((k + j : Nat) : Int)) ∧ Fr (fun b => (Value.slice a n c).ownBlock = some b) w w' := by
  have HQ : Hid (VOwn B 4 1 w (.slice a n c) n (boolF F)) := hQ
  clear hQ
  go_enter Try.func44, Try.ntmps44
  go_wp2_with fail
  go_loopw [1, 5] (fun l i wr => ∃ q : Nat, q ≤ n ∧ i = .int .i64 (q : Int) ∧ l = .int .i64 ((k + q : Nat) : Int) ∧ Hid (VOwn B 4 1 wr (.slice a n c) n (boolF fun j => if j < q then trM ((k + j : Nat) : Int) else F j) ∧ Fr (fun b => (Value.slice a n c).ownBlock = some b) w wr)) (fun _ i _ => n - (intOf i).toNat)
  case atStart => exact ⟨0, Nat.zero_le _, rfl, rfl, HQ.out.congr fun j _ _ _ => by simp, Fr.refl _ _⟩
  case round =>
    obtain ⟨q, hq, rfl, rfl, M⟩ := hrel
    by_cases hlt : q < n
    · obtain ⟨g, ha, _, _⟩ := M.out.1.addr (by omega)
      subst ha
      have hq0 : (0 : Int) ≤ (q : Int) := by omega
      have hqn : (q : Int) < (n : Int) := by omega
      have d0 : wr.cell? ⟨g, q, none⟩ = some (.bool (if q < q then trM ((k + q : Nat) : Int) else F q)) := by have := M.out.1.cell hlt (j := 0) (by omega); rwa [Nat.mul_one] at this
      have d1 := M.out.1.free q
      have M2 : Hid (VOwn B 4 1 (wr.setCell ⟨g, q, none⟩ (.bool (trM ((k + q : Nat) : Int)))) (.slice (some ⟨g, 0, none⟩) n c) n (boolF fun j => if j < q + 1 then trM ((k + j : Nat) : Int) else F j) ∧ Fr (fun b => (Value.slice (some ⟨g, 0, none⟩) n c).ownBlock = some b) w (wr.setCell ⟨g, q, none⟩ (.bool (trM ((k + q : Nat) : Int))))) := by
        refine ⟨M.out.1.store1 hlt _ fun j hj => ?_, M.out.2.cells rfl _ _⟩
        unfold upd
        by_cases e : j = q
        · subst e
          simp [boolF]
        · have h1 : (j < q + 1) = (j < q) := by simp; omega
          simp [boolF, e, h1]
      clear M
      go_wp2_with fail
      go_roundw
      case rel => exact ⟨q + 1, by omega, by go_num, by go_num, M2⟩
      case measure => simp [intOf]; omega
    · have hge : ¬ ((q : Int) < (n : Int)) := by omega
      have hqn : q = n := by omega
      have HR : Hid (VOwn B 4 1 wr (.slice a n c) n (boolF fun j => trM ((k + j : Nat) : Int)) ∧ Fr (fun b => (Value.slice a n c).ownBlock = some b) w wr) := by
        refine ⟨M.out.1.congr fun j hj _ _ => ?_, M.out.2⟩
        have hjq : j < q := by omega
        simp [boolF, hjq]
      clear M
      go_wp2_with fail
      go_ret
      exact ⟨by first | rfl | (rw [hqn]; rfl), HR.out⟩

set_option maxHeartbeats 2000000 in
theorem held47 (a : Option Addr) (n c : Nat) (k : Nat) (w : World) (hn : n ≤ 1048576) (hk : k ≤ 100000000000000) (hQ : VsAt 1 0 w a n (boolF fun j => trM ((k + j : Nat) : Int))) :
    Calls Try.prog 47 #[.slice a n c, .int .i64 (k : Int)] w fun e w' => e = .returned (.int .i64 ((k + n : Nat) : Int)) ∧ w' = w := by
  have HQ : Hid (VsAt 1 0 w a n (boolF fun j => trM ((k + j : Nat) : Int))) := hQ
  clear hQ
  go_enter Try.func47, Try.ntmps47
  go_wp2_with fail
  go_loop [1, 5] (fun l i => ∃ q : Nat, q ≤ n ∧ i = .int .i64 (q : Int) ∧ l = .int .i64 ((k + q : Nat) : Int)) (fun _ i => n - (intOf i).toNat)
  case atStart => exact ⟨0, Nat.zero_le _, rfl, rfl⟩
  case round =>
    obtain ⟨q, hq, rfl, rfl⟩ := hrel
    by_cases hlt : q < n
    · obtain ⟨b, off, hr, _, hb, hc⟩ := HQ.out (by omega)
      subst hr
      have hq0 : (0 : Int) ≤ (q : Int) := by omega
      have hqn : (q : Int) < (n : Int) := by omega
      have d0 : w.cell? ⟨b, off + q, none⟩ = some (.bool (((k + q : Nat) : Int).tmod 3 == 0)) := by have := hc q hlt 0 (by omega); rwa [Nat.mul_one] at this
      clear hc
      go_wp2_with fail
      go_round
      case rel => exact ⟨q + 1, by omega, by go_num, by go_num⟩
      case measure => simp [intOf]; omega
    · have hge : ¬ ((q : Int) < (n : Int)) := by omega
      have hqn : q = n := by omega
      go_wp2_with fail
      go_ret
      exact ⟨by first | rfl | (rw [hqn]; rfl), rfl⟩
/-- the marks of points -/
def ptM (k i j : Nat) : Int := ((k + 2 * i + j : Nat) : Int)
set_option maxHeartbeats 2000000 in
theorem mark45 (B : Nat) (a : Option Addr) (n c : Nat) (F : Nat → Nat → Int) (k : Nat) (w : World) (hn : n ≤ 1048576) (hk : k ≤ 100000000) (hQ : VOwn B 69 2 w (.slice a n c) n (intF F)) :
    Calls Try.prog 45 #[.slice a n c, .int .i64 (k : Int)] w fun e w' => e = .returned (.int .i64 ((k + 2 * n : Nat) : Int)) ∧ VOwn B 69 2 w' (.slice a n c) n (intF (ptM k)) ∧ Fr (fun b => (Value.slice a n c).ownBlock = some b) w w' := by
  have HQ : Hid (VOwn B 69 2 w (.slice a n c) n (intF F)) := hQ
  clear hQ
  go_enter Try.func45, Try.ntmps45
  go_wp2_with fail
  go_loopw [1, 5] (fun l i wr => ∃ q : Nat, q ≤ n ∧ i = .int .i64 (q : Int) ∧ l = .int .i64 ((k + 2 * q : Nat) : Int) ∧ Hid (VOwn B 69 2 wr (.slice a n c) n (intF fun i j => if i < q then ptM k i j else F i j) ∧ Fr (fun b => (Value.slice a n c).ownBlock = some b) w wr)) (fun _ i _ => n - (intOf i).toNat)
  case atStart => exact ⟨0, Nat.zero_le _, rfl, rfl, HQ.out.congr fun j _ _ _ => by simp [intF], Fr.refl _ _⟩
  case round =>
    obtain ⟨q, hq, rfl, rfl, M⟩ := hrel
    by_cases hlt : q < n
    · obtain ⟨g, ha, _, _⟩ := M.out.1.addr (by omega)
      subst ha
      have hq0 : (0 : Int) ≤ (q : Int) := by omega
      have hqn : (q : Int) < (n : Int) := by omega
      have S1 := M.out.1.store hlt (j := 0) (by omega) (.int .i64 ((k + 2 * q : Nat) : Int))
      have S2 := S1.store hlt (j := 1) (by omega) (.int .i64 ((k + 2 * q + 1 : Nat) : Int))
      have d0 := M.out.1.cell hlt (j := 0) (by omega)
      have d1 := M.out.1.free (q * 2)
      have e0 := M.out.1.cell hlt (j := 1) (by omega)
      have e1 := M.out.1.free (q * 2 + 1)
      rw [Nat.add_zero] at d0 S2
      have M2 : Hid (VOwn B 69 2 ((wr.setCell ⟨g, q * 2, none⟩ (.int .i64 ((k + 2 * q : Nat) : Int))).setCell ⟨g, q * 2 + 1, none⟩ (.int .i64 ((k + 2 * q + 1 : Nat) : Int))) (.slice (some ⟨g, 0, none⟩) n c) n (intF fun i j => if i < q + 1 then ptM k i j else F i j) ∧ Fr (fun b => (Value.slice (some ⟨g, 0, none⟩) n c).ownBlock = some b) w ((wr.setCell ⟨g, q * 2, none⟩ (.int .i64 ((k + 2 * q : Nat) : Int))).setCell ⟨g, q * 2 + 1, none⟩ (.int .i64 ((k + 2 * q + 1 : Nat) : Int)))) := by
        refine ⟨S2.congr fun i hi j hj => ?_, (M.out.2.cells rfl _ _).cells rfl _ _⟩
        unfold upd
        by_cases e : i = q
        · subst e
          rcases (show j = 0 ∨ j = 1 by omega) with rfl | rfl
          · simp [intF, ptM]
          · simp [intF, ptM]
        · have h1 : (i < q + 1) = (i < q) := by simp; omega
          simp [intF, e, h1]
      clear M S1 S2
      go_wp2_with fail
      go_roundw
      case rel => exact ⟨q + 1, by omega, by go_num, by go_num, M2⟩
      case measure => simp [intOf]; omega
    · have hge : ¬ ((q : Int) < (n : Int)) := by omega
      have hqn : q = n := by omega
      have HR : Hid (VOwn B 69 2 wr (.slice a n c) n (intF (ptM k)) ∧ Fr (fun b => (Value.slice a n c).ownBlock = some b) w wr) := by
        refine ⟨M.out.1.congr fun j hj _ _ => ?_, M.out.2⟩
        have hjq : j < q := by omega
        simp [intF, hjq]
      clear M
      go_wp2_with fail
      go_ret
      exact ⟨by first | rfl | (rw [hqn]; rfl), HR.out⟩
set_option maxHeartbeats 2000000 in
theorem held48 (a : Option Addr) (n c : Nat) (k : Nat) (w : World) (hn : n ≤ 1048576) (hk : k ≤ 100000000) (hQ : VsAt 2 0 w a n (intF (ptM k))) :
    Calls Try.prog 48 #[.slice a n c, .int .i64 (k : Int)] w fun e w' => e = .returned (.int .i64 ((k + 2 * n : Nat) : Int)) ∧ w' = w := by
  have HQ : Hid (VsAt 2 0 w a n (intF (ptM k))) := hQ
  clear hQ
  go_enter Try.func48, Try.ntmps48
  go_wp2_with fail
  go_loop [1, 5] (fun l i => ∃ q : Nat, q ≤ n ∧ i = .int .i64 (q : Int) ∧ l = .int .i64 ((k + 2 * q : Nat) : Int)) (fun _ i => n - (intOf i).toNat)
  case atStart => exact ⟨0, Nat.zero_le _, rfl, rfl⟩
  case round =>
    obtain ⟨q, hq, rfl, rfl⟩ := hrel
    by_cases hlt : q < n
    · obtain ⟨b, off, hr, _, hb, hc⟩ := HQ.out (by omega)
      subst hr
      have hq0 : (0 : Int) ≤ (q : Int) := by omega
      have hqn : (q : Int) < (n : Int) := by omega
      have d0 : w.cell? ⟨b, off + q * 2, none⟩ = some (.int .i64 ((k + 2 * q : Nat) : Int)) := hc q hlt 0 (by omega)
      have d1 : w.cell? ⟨b, off + q * 2 + 1, none⟩ = some (.int .i64 ((k + 2 * q + 1 : Nat) : Int)) := hc q hlt 1 (by omega)
      clear hc
      go_wp2_with fail
      go_round
      case rel => exact ⟨q + 1, by omega, by go_num, by go_num⟩
      case measure => simp [intOf]; omega
    · have hge : ¬ ((q : Int) < (n : Int)) := by omega
      have hqn : q = n := by omega
      go_wp2_with fail
      go_ret
      exact ⟨by first | rfl | (rw [hqn]; rfl), rfl⟩

end Go.Proofs.Ytooebighlohobaa
