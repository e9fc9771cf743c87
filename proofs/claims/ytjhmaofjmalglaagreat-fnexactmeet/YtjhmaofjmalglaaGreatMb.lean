import Derived.Test.YtjhmaofjmalglaaGreatMa
namespace Go.Proofs.YtjhmaofjmalglaaGreat
open Go.RowKit

def AgP (f g : Nat → Int) : Prop := f 0 = g 0 ∧ f 1 ≤ g 2 ∧ g 1 ≤ f 2
/-- one crossing -/
instance (f g : Nat → Int) : Decidable (AgP f g) := by unfold AgP; infer_instance
theorem AgP.of {f g : Nat → Int} (h : AgP f g) : f 0 = g 0 := h.1
set_option maxHeartbeats 1000000 in
theorem agP91 (f g : Nat → Int) (w : World) : Calls Tryz.prog 167 #[.agg #[.int .i64 (f 0), .int .i64 (f 1), .int .i64 (f 2)], .agg #[.int .i64 (g 0), .int .i64 (g 1), .int .i64 (g 2)]] w fun e w' => e = .returned (.bool (decide (AgP f g))) ∧ Below w.heap.size w w' := by
  by_cases h0 : f 0 = g 0
  · have h0' : (f 0 == g 0) = true := by simp [h0]
    by_cases h1 : f 1 ≤ g 2
    · by_cases h2 : g 1 ≤ f 2
      · have HV : Hid (decide (AgP f g) = true) := decide_eq_true ⟨h0, h1, h2⟩
        clear h0
        go_enter Tryz.func167, Tryz.ntmps167
        go_wp2_with fail
        rw [HV.out]
        go_ret
        exact ⟨rfl, bel2 _ _ _⟩
      · have HV : Hid (decide (AgP f g) = false) := decide_eq_false fun h => h2 h.2.2
        clear h0
        go_enter Tryz.func167, Tryz.ntmps167
        go_wp2_with fail
        rw [HV.out]
        go_ret
        exact ⟨rfl, bel2 _ _ _⟩
    · have HV : Hid (decide (AgP f g) = false) := decide_eq_false fun h => h1 h.2.1
      clear h0
      go_enter Tryz.func167, Tryz.ntmps167
      go_wp2_with fail
      rw [HV.out]
      go_ret
      exact ⟨rfl, bel2 _ _ _⟩
  · have h0' : (f 0 == g 0) = false := by simp [h0]
    have HV : Hid (decide (AgP f g) = false) := decide_eq_false fun h => h0 h.1
    clear h0
    go_enter Tryz.func167, Tryz.ntmps167
    go_wp2_with fail
    rw [HV.out]
    go_ret
    exact ⟨rfl, bel2 _ _ _⟩
set_option maxHeartbeats 1000000 in
theorem ofP (f : Nat → Int) (w : World) : Calls Tryz.prog 168 #[.agg #[.int .i64 (f 0), .int .i64 (f 1), .int .i64 (f 2)]] w fun e w' => e = .returned (.int .i64 (f 0)) ∧ Below w.heap.size w w' := by
  go_enter Tryz.func168, Tryz.ntmps168
  go_wp2_with fail
  go_ret
  exact ⟨rfl, bel1 _ _⟩

set_option maxRecDepth 100000 in
set_option maxHeartbeats 2000000 in
theorem indexP (f : Nat → Int) (a : Option Addr) (n cap : Nat) (G : Nat → Nat → Int) (w : World) (hn : n ≤ 2097152) (hE : NsAt 3 0 w a n G) :
    Calls Tryz.prog 134 #[.slice a n cap, .func (.method "loop.example/signalbox/impl.against") #[.iface 112 (.agg #[.int .i64 (f 0), .int .i64 (f 1), .int .i64 (f 2)])] #[]] w fun e w' => ∃ i : Int, e = .returned (.int .i64 i) ∧ (0 ≤ i ↔ ∃ q, q < n ∧ AgP f (G q)) ∧ Below w.heap.size w w' := by
  go_enter Tryz.func134, Tryz.ntmps134
  go_wp2_with fail
  go_loopw [8] (fun i wr => ∃ (k : Nat), k ≤ n ∧ i = .int .i64 k ∧ Hid (∀ q, q < k → ¬ AgP f (G q)) ∧ Below w.heap.size w wr) (fun i _ => n - (intOf i).toNat)
  case atStart => exact ⟨0, Nat.zero_le _, rfl, fun q hq => absurd hq (Nat.not_lt_zero _), Below.refl _ _⟩
  case round =>
    obtain ⟨k, hk, rfl, hall, hbel⟩ := hrel
    by_cases hlt : k < n
    · obtain ⟨b, off, rfl, _, hb, hc⟩ := (hE.mono (Nat.le_refl _) hbel (Nat.le_refl _)) (by omega)
      have c0 : wr.cell? ⟨b, off + k * 3, none⟩ = some (.int .i64 (G k 0)) := hc k hlt 0 (by omega)
      have c1 : wr.cell? ⟨b, off + k * 3 + 1, none⟩ = some (.int .i64 (G k 1)) := hc k hlt 1 (by omega)
      have c2 : wr.cell? ⟨b, off + k * 3 + 2, none⟩ = some (.int .i64 (G k 2)) := hc k hlt 2 (by omega)
      have hlt' : (k : Int) < (n : Int) := by omega
      have hk0 : (0 : Int) ≤ (k : Int) := by omega
      clear hc
      by_cases h : AgP f (G k)
      · have HV : Hid (∃ q, q < n ∧ AgP f (G q)) := ⟨k, hlt, h⟩
        have HD : Hid (decide (AgP f (G k)) = true) := decide_eq_true h
        clear hall h
        go_wp2_with fail
        refine (agP91 f (G k) _).mono ?_
        rintro e w1 ⟨rfl, hb1⟩
        rw [HD.out]
        go_wp2_with fail
        go_ret
        exact ⟨_, rfl, ⟨fun _ => HV.out, fun _ => by omega⟩, hbel.trans (hb1.mono hbel.size)⟩
      · have HV : Hid (∀ q, q < k + 1 → ¬ AgP f (G q)) := by
          intro q hq
          by_cases e : q = k
          · subst e; exact h
          · exact hall.out q (by omega)
        have HD : Hid (decide (AgP f (G k)) = false) := decide_eq_false h
        clear hall h
        go_wp2_with fail
        refine (agP91 f (G k) _).mono ?_
        rintro e w1 ⟨rfl, hb1⟩
        rw [HD.out]
        go_wp2_with fail
        go_roundw
        case rel => exact ⟨k + 1, by omega, by go_num, HV, hbel.trans (hb1.mono hbel.size)⟩
        case measure => simp [intOf]; omega
    · obtain rfl : k = n := by omega
      go_wp2_with fail
      go_ret
      exact ⟨-1, rfl, ⟨fun h => absurd h (by omega), fun ⟨q, hq, h⟩ => absurd h (hall.out q hq)⟩, hbel⟩

set_option maxHeartbeats 1000000 in
theorem containsP (f : Nat → Int) (a : Option Addr) (n cap : Nat) (G : Nat → Nat → Int) (w : World) (hn : n ≤ 2097152) (hE : NsAt 3 0 w a n G) :
    Calls Tryz.prog 106 #[.slice a n cap, .func (.method "loop.example/signalbox/impl.against") #[.iface 112 (.agg #[.int .i64 (f 0), .int .i64 (f 1), .int .i64 (f 2)])] #[]] w fun e w' => ∃ b : Bool, e = .returned (.bool b) ∧ (b = true ↔ ∃ q, q < n ∧ AgP f (G q)) ∧ Below w.heap.size w w' := by
  go_enter Tryz.func106, Tryz.ntmps106
  go_wp2_with fail
  refine (indexP f a n cap G _ hn hE).mono ?_
  rintro e w1 ⟨i, rfl, hi, hb1⟩
  have HI : Hid (0 ≤ i ↔ ∃ q, q < n ∧ AgP f (G q)) := hi
  clear hi
  go_wp2_with fail
  go_ret
  exact ⟨decide (0 ≤ i), rfl, by rw [decide_eq_true_iff]; exact HI.out, hb1⟩

end Go.Proofs.YtjhmaofjmalglaaGreat
