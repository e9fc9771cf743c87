import Derived.Test.YtjhmaofjmalglaaGreatMb
namespace Go.Proofs.YtjhmaofjmalglaaGreat
open Go.RowKit

set_option maxRecDepth 100000 in
set_option maxHeartbeats 4000000 in
theorem touch57 (a : Option Addr) (n cap : Nat) (F : Nat → Nat → Int) (a' : Option Addr) (m cap' : Nat) (G : Nat → Nat → Int) (w : World) (hn : n ≤ 1048576) (hm : m ≤ 1048576) (hE : NsAt 3 0 w a n F) (hE' : NsAt 3 0 w a' m G) :
    Calls Tryz.prog 57 #[.slice a n cap, .slice a' m cap'] w fun e w' => ∃ t : Bool, e = .returned (.bool t) ∧ (t = true ↔ ∃ i, i < n ∧ ∃ j, j < m ∧ AgP (F i) (G j)) ∧ Below w.heap.size w w' := by
  have HE' : Hid (NsAt 3 0 w a' m G) := hE'
  clear hE'
  go_enter Tryz.func57, Tryz.ntmps57
  go_wp2_with fail
  go_loopw [11] (fun i wr => ∃ k : Nat, k ≤ n ∧ i = .int .i64 k ∧ Hid (∀ i, i < k → ∀ j, j < m → ¬ AgP (F i) (G j)) ∧ Below w.heap.size w wr) (fun i _ => n - (intOf i).toNat)
  case atStart => exact ⟨0, Nat.zero_le _, rfl, fun i hi => absurd hi (Nat.not_lt_zero _), Below.refl _ _⟩
  case round =>
    obtain ⟨k, hk, rfl, HA, hbel⟩ := hrel
    obtain ⟨wq, hwq⟩ : ∃ wq, wq = wr := ⟨_, rfl⟩
    subst hwq
    by_cases hlt : k < n
    · obtain ⟨b, off, rfl, _, hb, hc⟩ := (hE.mono (Nat.le_refl _) hbel (Nat.le_refl _)) (by omega)
      have c0 : wq.cell? ⟨b, off + k * 3, none⟩ = some (.int .i64 (F k 0)) := hc k hlt 0 (by omega)
      have c1 : wq.cell? ⟨b, off + k * 3 + 1, none⟩ = some (.int .i64 (F k 1)) := hc k hlt 1 (by omega)
      have c2 : wq.cell? ⟨b, off + k * 3 + 2, none⟩ = some (.int .i64 (F k 2)) := hc k hlt 2 (by omega)
      have hbq : Below w.heap.size w (wq.alloc (.cells #[.int .i64 (F k 0), .int .i64 (F k 1), .int .i64 (F k 2)] 112)) := hbel.alloc hbel.size _
      clear hc
      go_wp2_with fail
      clear c0 c1 c2
      go_loopw [17] (fun i wr => ∃ q : Nat, q ≤ m ∧ i = .int .i64 q ∧ Hid (∀ j, j < q → ¬ AgP (F k) (G j)) ∧ Below (wq.heap.size + 1) (wq.alloc (.cells #[.int .i64 (F k 0), .int .i64 (F k 1), .int .i64 (F k 2)] 112)) wr) (fun i _ => m - (intOf i).toNat)
      case atStart => exact ⟨0, Nat.zero_le _, rfl, fun j hj => absurd hj (Nat.not_lt_zero _), Below.refl _ _⟩
      case round =>
        obtain ⟨q, hq, rfl, HI, hbi⟩ := hrel
        have hB : Below w.heap.size w wr := hbq.trans (hbi.mono (by have := hbel.size; omega))
        have hz : wq.heap.size < wr.heap.size := by have := hbi.size; simp at this; omega
        by_cases hlq : q < m
        · obtain ⟨b2, off2, rfl, _, hb2, hc2⟩ := (HE'.out.mono (Nat.le_refl _) hB (Nat.le_refl _)) (by omega)
          have d0 : wr.cell? ⟨b2, off2 + q * 3, none⟩ = some (.int .i64 (G q 0)) := hc2 q hlq 0 (by omega)
          have d1 : wr.cell? ⟨b2, off2 + q * 3 + 1, none⟩ = some (.int .i64 (G q 1)) := hc2 q hlq 1 (by omega)
          have d2 : wr.cell? ⟨b2, off2 + q * 3 + 2, none⟩ = some (.int .i64 (G q 2)) := hc2 q hlq 2 (by omega)
          have y0 : wr.cell? ⟨wq.heap.size, 0, none⟩ = some (.int .i64 (F k 0)) := (hbi.cell (p := ⟨wq.heap.size, 0, none⟩) (by show wq.heap.size < wq.heap.size + 1; omega)).trans (by simp)
          have y1 : wr.cell? ⟨wq.heap.size, 1, none⟩ = some (.int .i64 (F k 1)) := (hbi.cell (p := ⟨wq.heap.size, 1, none⟩) (by show wq.heap.size < wq.heap.size + 1; omega)).trans (by simp)
          have y2 : wr.cell? ⟨wq.heap.size, 2, none⟩ = some (.int .i64 (F k 2)) := (hbi.cell (p := ⟨wq.heap.size, 2, none⟩) (by show wq.heap.size < wq.heap.size + 1; omega)).trans (by simp)
          clear hc2
          have hbj := hbi.alloc (by omega) (.cells #[.int .i64 (G q 0), .int .i64 (G q 1), .int .i64 (G q 2)] 112)
          have hBj := hB.alloc hB.size (.cells #[.int .i64 (G q 0), .int .i64 (G q 1), .int .i64 (G q 2)] 112)
          have HN : Hid (¬ AgP (F k) (G q) → ∀ j, j < q + 1 → ¬ AgP (F k) (G j)) := by
            intro h j hj
            by_cases e : j = q
            · subst e; exact h
            · exact HI.out j (by omega)
          clear HI
          by_cases h0 : F k 0 = G q 0
          · have h0' : (F k 0 == G q 0) = true := by simp [h0]
            by_cases h1 : F k 1 ≤ G q 2
            · by_cases h2 : G q 1 ≤ F k 2
              · have HV : Hid (∃ i, i < n ∧ ∃ j, j < m ∧ AgP (F i) (G j)) := ⟨k, hlt, q, hlq, h0, h1, h2⟩
                clear h0 HN HA
                go_wp2_with fail
                go_ret
                exact ⟨true, rfl, ⟨fun _ => HV.out, fun _ => rfl⟩, hBj⟩
              · have HV : Hid (∀ j, j < q + 1 → ¬ AgP (F k) (G j)) := HN.out fun h => h2 h.2.2
                clear h0 HN
                go_wp2_with fail
                go_roundw
                case rel => exact ⟨q + 1, by omega, by go_num, HV, hbj⟩
                case measure => simp [intOf]; omega
            · have HV : Hid (∀ j, j < q + 1 → ¬ AgP (F k) (G j)) := HN.out fun h => h1 h.2.1
              clear h0 HN
              go_wp2_with fail
              go_roundw
              case rel => exact ⟨q + 1, by omega, by go_num, HV, hbj⟩
              case measure => simp [intOf]; omega
          · have h0' : (F k 0 == G q 0) = false := by simp [h0]
            have HV : Hid (∀ j, j < q + 1 → ¬ AgP (F k) (G j)) := HN.out fun h => h0 h.1
            clear h0 HN
            go_wp2_with fail
            go_roundw
            case rel => exact ⟨q + 1, by omega, by go_num, HV, hbj⟩
            case measure => simp [intOf]; omega
        · obtain rfl : q = m := by omega
          have HV : Hid (∀ i, i < k + 1 → ∀ j, j < q → ¬ AgP (F i) (G j)) := by
            intro i hi
            by_cases e : i = k
            · subst e; exact HI.out
            · exact HA.out i (by omega)
          clear HI HA
          go_wp2_with fail
          go_roundw
          case rel => exact ⟨k + 1, by omega, by go_num, HV, hB⟩
          case measure => simp [intOf]; omega
    · obtain rfl : k = n := by omega
      go_wp2_with fail
      go_ret
      exact ⟨false, rfl, ⟨fun h => (by cases h), fun ⟨i, hi, j, hj, h⟩ => absurd h (HA.out i hi j hj)⟩, hbel⟩

end Go.Proofs.YtjhmaofjmalglaaGreat
