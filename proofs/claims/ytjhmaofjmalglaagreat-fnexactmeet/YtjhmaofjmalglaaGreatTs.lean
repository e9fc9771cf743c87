import Derived.Test.YtjhmaofjmalglaaGreatTr0
namespace Go.Proofs.YtjhmaofjmalglaaGreat
open Go.RowKit Go.Lib

/-- as many steps as are written already -/
def NsTo (wr : World) (B n k : Nat) (F : Nat → Nat → Int) : Prop := ∃ f, wr.rowIs B 74 (n * 2) f ∧ ∀ j, j < k → f (j * 2) = .int .i64 (F j 0) ∧ f (j * 2 + 1) = .int .i64 (F j 1)
theorem NsTo.step {w : World} {B n k : Nat} {F : Nat → Nat → Int} (h : NsTo w B n k F) :
    NsTo ((w.setCell ⟨B, k * 2, none⟩ (.int .i64 (F k 0))).setCell ⟨B, k * 2 + 1, none⟩ (.int .i64 (F k 1))) B n (k + 1) F := by
  obtain ⟨f, hr, hf⟩ := h
  refine ⟨_, (hr.set _ _).set _ _, fun j hj => ?_⟩
  by_cases e : j = k
  · subst e
    simp
  · have := hf j (by omega)
    simp only [show ¬ j * 2 = k * 2 by omega, show ¬ j * 2 = k * 2 + 1 by omega, show ¬ j * 2 + 1 = k * 2 by omega, show ¬ j * 2 + 1 = k * 2 + 1 by omega, if_false]
    exact this
theorem NsTo.at {w : World} {B n : Nat} {F : Nat → Nat → Int} (h : NsTo w B n n F) : NsAt 2 B w (some ⟨B, 0, none⟩) n F := by
  obtain ⟨f, hr, hf⟩ := h
  intro _
  refine ⟨B, 0, rfl, Nat.le_refl _, hr.lt, fun i hi j hj => ?_⟩
  obtain ⟨h1, h2⟩ := hf i hi
  rcases (show j = 0 ∨ j = 1 by omega) with rfl | rfl
  · rw [Nat.zero_add, ← h1]
    exact hr.cell (by omega)
  · rw [Nat.zero_add, ← h2]
    exact hr.cell (by omega)
theorem info114 : (Tryz.prog.info? 74).map (fun i => (i.zero, i.size, i.bytes)) = some (some (.agg #[.int .i64 0, .int .i64 0]), 2, 16) := by kernel_rfl
theorem toStep65 (a b : Int) (w : World) :
    Calls Tryz.prog 100 #[.agg #[.int .i64 a, .int .i64 b]] w fun e w' => e = .returned (.agg #[.int .i64 a, .int .i64 b]) ∧ Below w.heap.size w w' := by
  go_enter Tryz.func100, Tryz.ntmps100
  go_wp2
  exact bodyPost_ret (v := .agg #[.int .i64 a, .int .i64 b]) (by simp [results, Tryz.results100, go_sem]) rfl ⟨rfl, bel3 _ _ _ _⟩
theorem eqStep71 (a b : Int) (w : World) :
    Calls Tryz.prog 107 #[.agg #[.int .i64 a, .int .i64 b], .agg #[.int .i64 a, .int .i64 b]] w fun e w' => e = .returned (.bool true) ∧ Below w.heap.size w w' := by
  go_enter Tryz.func107, Tryz.ntmps107
  go_wp2
  go_ret
  exact ⟨rfl, bel2 _ _ _⟩
theorem toSpot38 (a b c : Int) (w : World) :
    Calls Tryz.prog 10 #[.agg #[.int .i64 a, .int .i64 b, .int .i64 c]] w fun e w' => e = .returned (.agg #[.int .i64 a, .int .i64 b, .int .i64 c]) ∧ Below w.heap.size w w' := by
  go_enter Tryz.func10, Tryz.ntmps10
  go_wp2
  exact bodyPost_ret (v := .agg #[.int .i64 a, .int .i64 b, .int .i64 c]) (by simp [results, Tryz.results10, go_sem]) rfl ⟨rfl, bel3 _ _ _ _⟩
theorem eqSpot21 (a b c : Int) (w : World) :
    Calls Tryz.prog 63 #[.agg #[.int .i64 a, .int .i64 b, .int .i64 c], .agg #[.int .i64 a, .int .i64 b, .int .i64 c]] w fun e w' => e = .returned (.bool true) ∧ Below w.heap.size w w' := by
  go_enter Tryz.func63, Tryz.ntmps63
  go_wp2
  go_ret
  exact ⟨rfl, bel2 _ _ _⟩
theorem szStepS36 (a : Option Addr) (n cap : Nat) (left : Int) (w : World) (hn : n ≤ maxLen) (h0 : 0 ≤ left) (h1 : left ≤ 1048576) :
    Calls Tryz.prog 54 #[.slice a n cap, .int .i64 left] w fun e w' => e = .returned (.int .i64 (if left < (n : Int) then -1 else left - n)) ∧ w' = w := by
  unfold maxLen at hn
  by_cases h : left < (n : Int)
  · rw [if_pos h]
    go_enter Tryz.func54, Tryz.ntmps54
    go_wp2
    go_ret
    exact ⟨rfl, rfl⟩
  · rw [if_neg h]
    go_enter Tryz.func54, Tryz.ntmps54
    go_wp2
    go_ret
    exact ⟨rfl, rfl⟩
theorem szTrain14 (fp fa fw lg : Int) (nb : Nat) (ba : Option Addr) (bk : Nat) (left : Int) (w : World) (hn : nb ≤ maxLen) (h0 : 0 ≤ left) (h1 : left ≤ 1048576) :
    Calls Tryz.prog 19 #[.agg #[.int .i64 fp, .int .i64 fa, .int .i64 fw, .int .i64 lg, .slice ba nb bk], .int .i64 left] w fun e w' => ∃ r : Int, e = .returned (.int .i64 r) ∧ r ≤ left ∧ (0 ≤ r → (nb : Int) ≤ left) ∧ Below w.heap.size w w' := by
  by_cases h : left < (nb : Int)
  · go_enter Tryz.func19, Tryz.ntmps19
    go_wp2_with fail
    refine (szStepS36 ba nb bk left _ hn h0 h1).mono ?_
    rw [if_pos h]
    rintro e w1 ⟨rfl, rfl⟩
    go_wp2
    go_ret
    exact ⟨-1, rfl, by omega, by omega, bel1 _ _⟩
  · go_enter Tryz.func19, Tryz.ntmps19
    go_wp2_with fail
    refine (szStepS36 ba nb bk left _ hn h0 h1).mono ?_
    rw [if_neg (by omega : ¬ left < (nb : Int))]
    have hn0 : ¬ (left - (nb : Int) < 0) := by omega
    rintro e w1 ⟨rfl, rfl⟩
    go_wp2
    go_ret
    exact ⟨left - nb, rfl, by omega, fun _ => by omega, bel1 _ _⟩
set_option maxHeartbeats 1000000 in
theorem toStepS39 (a : Option Addr) (n cap : Nat) (E : Nat → Nat → Int) (w : World) (hn : n ≤ 1048576) (hE : NsAt 2 0 w a n E) :
    Calls Tryz.prog 59 #[.slice a n cap] w fun e w' => e = .returned (.slice (some ⟨w.heap.size, 0, none⟩) n n) ∧ NsAt 2 w.heap.size w' (some ⟨w.heap.size, 0, none⟩) n E ∧ Below w.heap.size w w' := by
  have hmk := make_rows (P := Tryz.prog) 31 74 _ 16 2 Tryz.underlying31 info114 n (by omega) (by omega)
  have hf0 : NsTo (w.alloc (.cells (mk0 (.agg #[.int .i64 0, .int .i64 0]) (n * 2)) 74)) w.heap.size n 0 E := by
    obtain ⟨f0, hf0⟩ := row_mk0 w (.agg #[.int .i64 0, .int .i64 0]) (n * 2) 74
    exact ⟨f0, hf0, fun j hj => absurd hj (Nat.not_lt_zero _)⟩
  go_enter Tryz.func59, Tryz.ntmps59
  go_wp2_with fail
  go_loopw [4] (fun i wr => ∃ (k : Nat), k ≤ n ∧ i = .int .i64 k ∧ NsTo wr w.heap.size n k E ∧ Below w.heap.size w wr) (fun i _ => n - (intOf i).toNat)
  case atStart => exact ⟨0, Nat.zero_le _, rfl, hf0, bel1 _ _⟩
  case round =>
    obtain ⟨k, hk, rfl, hto, hbel⟩ := hrel
    clear hf0 hmk
    by_cases hlt : k < n
    · obtain ⟨b, off, rfl, _, hb, hc⟩ := (hE.mono (Nat.le_refl _) hbel (Nat.le_refl _)) (by omega)
      have c0 : wr.cell? ⟨b, off + k * 2, none⟩ = some (.int .i64 (E k 0)) := hc k hlt 0 (by omega)
      have c1 : wr.cell? ⟨b, off + k * 2 + 1, none⟩ = some (.int .i64 (E k 1)) := hc k hlt 1 (by omega)
      clear hc
      go_wp2_with fail
      refine (toStep65 (E k 0) (E k 1) _).mono ?_
      rintro e w1 ⟨rfl, hb1⟩
      have hto1 : NsTo w1 w.heap.size n k E := by
        obtain ⟨f, hr, hf⟩ := hto
        exact ⟨f, rowBel hr hb1 hr.lt, hf⟩
      have hbel1 := hbel.trans (hb1.mono hbel.size)
      have hR := hto1.step
      obtain ⟨f, hr1, _⟩ := hto1
      have d0 := hr1.cell (i := k * 2) (by omega)
      have d1 := hr1.cell (i := k * 2 + 1) (by omega)
      have e0 := hr1.frozen (k * 2)
      have e1 := hr1.frozen (k * 2 + 1)
      clear c0 c1 hto hr1
      go_wp2_with fail
      go_roundw
      case rel => exact ⟨k + 1, by omega, by go_num, hR, (hbel1.setCell (Nat.le_refl _) _).setCell (Nat.le_refl _) _⟩
      case measure => simp [intOf]; omega
    · obtain rfl : k = n := by omega
      go_wp2
      go_ret
      exact ⟨rfl, hto.at, hbel⟩
set_option maxHeartbeats 1000000 in
theorem eqStepS41 (a a' : Option Addr) (n cap cap' : Nat) (E : Nat → Nat → Int) (w : World) (hn : n ≤ 1048576) (hE : NsAt 2 0 w a n E) (hE' : NsAt 2 0 w a' n E) :
    Calls Tryz.prog 64 #[.slice a n cap, .slice a' n cap'] w fun e w' => e = .returned (.bool true) ∧ Below w.heap.size w w' := by
  go_enter Tryz.func64, Tryz.ntmps64
  go_wp2_with fail
  go_loopw [5] (fun i wr => ∃ (k : Nat), k ≤ n ∧ i = .int .i64 k ∧ Below w.heap.size w wr) (fun i _ => n - (intOf i).toNat)
  case atStart => exact ⟨0, Nat.zero_le _, rfl, Below.refl _ _⟩
  case round =>
    obtain ⟨k, hk, rfl, hbel⟩ := hrel
    by_cases hlt : k < n
    · obtain ⟨b, off, rfl, _, hb, hc⟩ := (hE.mono (Nat.le_refl _) hbel (Nat.le_refl _)) (by omega)
      have c0 : wr.cell? ⟨b, off + k * 2, none⟩ = some (.int .i64 (E k 0)) := hc k hlt 0 (by omega)
      have c1 : wr.cell? ⟨b, off + k * 2 + 1, none⟩ = some (.int .i64 (E k 1)) := hc k hlt 1 (by omega)
      obtain ⟨b', off', rfl, _, hb', hc'⟩ := (hE'.mono (Nat.le_refl _) hbel (Nat.le_refl _)) (by omega)
      have c0' : wr.cell? ⟨b', off' + k * 2, none⟩ = some (.int .i64 (E k 0)) := hc' k hlt 0 (by omega)
      have c1' : wr.cell? ⟨b', off' + k * 2 + 1, none⟩ = some (.int .i64 (E k 1)) := hc' k hlt 1 (by omega)
      have hlt' : (k : Int) < (n : Int) := by omega
      have hk0 : (0 : Int) ≤ (k : Int) := by omega
      clear hc hc'
      go_wp2_with fail
      go_region_with (go_at_call 107; refine (eqStep71 (E k 0) (E k 1) _).mono ?_; rintro e w1 ⟨rfl, hb1⟩)
      all_goals
        go_wp2_with fail
        go_roundw
        case rel => exact ⟨k + 1, by omega, by go_num, hbel.drew.trans (hb1.mono hbel.drew.size)⟩
        case measure => simp [intOf]; omega
    · go_wp2
      go_ret
      exact ⟨rfl, hbel⟩

end Go.Proofs.YtjhmaofjmalglaaGreat
