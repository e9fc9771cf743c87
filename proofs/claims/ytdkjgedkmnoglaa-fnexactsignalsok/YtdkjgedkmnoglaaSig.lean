import Derived.Test.YtdkjgedkmnoglaaSz
import Derived.Test.YtdkjgedkmnoglaaTo
import Derived.Test.YtdkjgedkmnoglaaEq
namespace Go.Proofs.Ytdkjgedkmnoglaa
open Go.RowKit

set_option maxHeartbeats 400000 in
theorem szSignal30 (nm : ByteArray) (a b c left : Int) (w : World) (hs : nm.size ≤ maxLen) (h0 : 0 ≤ left) (h1 : left ≤ 1048576) :
    Calls Try.prog 30 #[.agg #[.string nm, .int .i64 a, .int .i64 b, .int .i64 c], .int .i64 left] w fun e w' =>
      e = .returned (.int .i64 (szL left nm.size)) ∧ Below w.heap.size w w' := by
  unfold maxLen at hs
  by_cases h : left < (nm.size : Int)
  · go_enter Try.func30, Try.ntmps30
    go_wp2
    go_ret
    exact ⟨by simp [szL]; omega, (Below.refl _ _).alloc (Nat.le_refl _) _⟩
  · go_enter Try.func30, Try.ntmps30
    go_wp2
    go_ret
    exact ⟨by simp [szL]; omega, (Below.refl _ _).alloc (Nat.le_refl _) _⟩

set_option maxHeartbeats 400000 in
theorem szSignalS11 (a : Option Addr) (n cap : Nat) (P : Nat → Pc) (left : Int) (w : World) (hn : n ≤ maxLen) (h0 : 0 ≤ left) (h1 : left ≤ 1048576)
    (hP : PsAt 0 w a n P) (hs : ∀ i, i < n → (P i).nm.size ≤ maxLen) :
    Calls Try.prog 11 #[.slice a n cap, .int .i64 left] w fun e w' =>
      ∃ r : Int, e = .returned (.int .i64 r) ∧ r ≤ left ∧ (0 ≤ r → (n : Int) ≤ left) ∧ Below w.heap.size w w' := by
  unfold maxLen at hn
  by_cases h : left < (n : Int)
  · go_enter Try.func11, Try.ntmps11
    go_wp2
    go_ret
    exact ⟨-1, rfl, by omega, by omega, Below.refl _ _⟩
  · go_enter Try.func11, Try.ntmps11
    go_wp2_with fail
    go_loopw [1, 5] (fun l i wr => ∃ (k : Nat) (lv : Int), k ≤ n ∧ i = .int .i64 k ∧ l = .int .i64 lv ∧ 0 ≤ lv ∧ lv ≤ left ∧ Below w.heap.size w wr)
      (fun _ i _ => n - (intOf i).toNat)
    case atStart => exact ⟨0, left - n, Nat.zero_le _, rfl, rfl, by omega, by omega, Below.refl _ _⟩
    case round =>
      obtain ⟨k, lv, hk, rfl, rfl, hl0, hl1, hbel⟩ := hrel
      by_cases hlt : k < n
      · obtain ⟨b, off, rfl, _, hb, hc⟩ := (hP.mono (Nat.le_refl _) hbel (Nat.le_refl _)) (by omega)
        obtain ⟨c0, c1, c2, c3⟩ := hc k hlt
        have hsz := hs k hlt
        clear hc
        go_wp2_with fail
        refine (szSignal30 (P k).nm _ _ _ lv _ hsz hl0 (by omega)).mono ?_
        rintro e w1 ⟨rfl, hb1⟩
        have hb2 : Below w.heap.size w w1 := hbel.trans (hb1.mono hbel.size)
        by_cases hneg : szL lv (P k).nm.size < 0
        · go_wp2
          go_ret
          exact ⟨-1, rfl, by omega, by omega, hb2⟩
        · have hle : szL lv (P k).nm.size ≤ lv := by unfold szL; split <;> omega
          generalize szL lv (P k).nm.size = l2 at *
          go_wp2
          go_roundw
          case rel => exact ⟨k + 1, l2, by omega, by go_num, rfl, by omega, by omega, hb2⟩
          case measure => simp [intOf]; omega
      · go_wp2
        go_ret
        exact ⟨lv, rfl, by omega, by omega, hbel⟩

set_option maxHeartbeats 400000 in
theorem toSignal33 (p : Pc) (w : World) :
    Calls Try.prog 33 #[.agg #[.string p.nm, .int .i64 p.ln, .int .i64 p.sp, .int .i64 p.br]] w fun e w' =>
      e = .returned (.agg #[.string p.nm, .int .i64 p.ln, .int .i64 p.sp, .int .i64 p.br]) ∧ Below w.heap.size w w' := by
  go_enter Try.func33, Try.ntmps33
  go_wp2
  exact bodyPost_ret (v := .agg #[.string p.nm, .int .i64 p.ln, .int .i64 p.sp, .int .i64 p.br]) (by simp [results, Try.results33, go_sem]) rfl ⟨rfl, bel3 _ _ _ _⟩

theorem info69 : (Try.prog.info? 69).map (fun i => (i.zero, i.size, i.bytes)) = some (some (.agg #[.string ⟨#[]⟩, .int .i64 0, .int .i64 0, .int .i64 0]), 4, 40) := by kernel_rfl

def SsTo (wr : World) (B n k : Nat) (P : Nat → Pc) : Prop :=
  ∃ f, wr.rowIs B 69 (n * 4) f ∧ ∀ j, j < k → f (j * 4) = .string (P j).nm ∧ f (j * 4 + 1) = .int .i64 (P j).ln ∧ f (j * 4 + 2) = .int .i64 (P j).sp ∧ f (j * 4 + 3) = .int .i64 (P j).br

theorem SsTo.step {w : World} {B n k : Nat} {P : Nat → Pc} (h : SsTo w B n k P) :
    SsTo ((((w.setCell ⟨B, k * 4, none⟩ (.string (P k).nm)).setCell ⟨B, k * 4 + 1, none⟩ (.int .i64 (P k).ln)).setCell ⟨B, k * 4 + 2, none⟩ (.int .i64 (P k).sp)).setCell ⟨B, k * 4 + 3, none⟩ (.int .i64 (P k).br)) B n (k + 1) P := by
  obtain ⟨f, hr, hf⟩ := h
  refine ⟨_, (((hr.set _ _).set _ _).set _ _).set _ _, fun j hj => ?_⟩
  by_cases e : j = k
  · subst e
    simp
  · have := hf j (by omega)
    simp only [show ¬ j * 4 = k * 4 by omega, show ¬ j * 4 = k * 4 + 1 by omega, show ¬ j * 4 = k * 4 + 2 by omega, show ¬ j * 4 = k * 4 + 3 by omega,
      show ¬ j * 4 + 1 = k * 4 by omega, show ¬ j * 4 + 1 = k * 4 + 1 by omega, show ¬ j * 4 + 1 = k * 4 + 2 by omega, show ¬ j * 4 + 1 = k * 4 + 3 by omega,
      show ¬ j * 4 + 2 = k * 4 by omega, show ¬ j * 4 + 2 = k * 4 + 1 by omega, show ¬ j * 4 + 2 = k * 4 + 2 by omega, show ¬ j * 4 + 2 = k * 4 + 3 by omega,
      show ¬ j * 4 + 3 = k * 4 by omega, show ¬ j * 4 + 3 = k * 4 + 1 by omega, show ¬ j * 4 + 3 = k * 4 + 2 by omega, show ¬ j * 4 + 3 = k * 4 + 3 by omega, if_false]
    exact this

theorem SsTo.at {w : World} {B n : Nat} {P : Nat → Pc} (h : SsTo w B n n P) : PsAt B w (some ⟨B, 0, none⟩) n P := by
  obtain ⟨f, hr, hf⟩ := h
  intro _
  refine ⟨B, 0, rfl, Nat.le_refl _, hr.lt, fun i hi => ?_⟩
  obtain ⟨h1, h2, h3, h4⟩ := hf i hi
  rw [Nat.zero_add, ← h1, ← h2, ← h3, ← h4]
  exact ⟨hr.cell (by omega), hr.cell (by omega), hr.cell (by omega), hr.cell (by omega)⟩

set_option maxHeartbeats 400000 in
theorem toSignalS13 (a : Option Addr) (n cap : Nat) (P : Nat → Pc) (w : World) (hn : n ≤ 1048576) (hP : PsAt 0 w a n P) :
    Calls Try.prog 13 #[.slice a n cap] w fun e w' =>
      e = .returned (.slice (some ⟨w.heap.size, 0, none⟩) n n) ∧ PsAt w.heap.size w' (some ⟨w.heap.size, 0, none⟩) n P ∧ Below w.heap.size w w' := by
  have hmk := make_rows (P := Try.prog) 41 69 _ 40 4 Try.underlying41 info69 n (by omega) (by omega)
  have hf0 : SsTo (w.alloc (.cells (mk0 (.agg #[.string ⟨#[]⟩, .int .i64 0, .int .i64 0, .int .i64 0]) (n * 4)) 69)) w.heap.size n 0 P := by
    obtain ⟨f0, hf0⟩ := row_mk0 w (.agg #[.string ⟨#[]⟩, .int .i64 0, .int .i64 0, .int .i64 0]) (n * 4) 69
    exact ⟨f0, hf0, fun j hj => absurd hj (Nat.not_lt_zero _)⟩
  go_enter Try.func13, Try.ntmps13
  go_wp2_with fail
  go_loopw [4] (fun i wr => ∃ (k : Nat), k ≤ n ∧ i = .int .i64 k ∧ SsTo wr w.heap.size n k P ∧ Below w.heap.size w wr)
      (fun i _ => n - (intOf i).toNat)
  case atStart => exact ⟨0, Nat.zero_le _, rfl, hf0, bel1 _ _⟩
  case round =>
    obtain ⟨k, hk, rfl, hto, hbel⟩ := hrel
    clear hf0 hmk
    by_cases hlt : k < n
    · obtain ⟨b, off, rfl, _, hb, hc⟩ := (hP.mono (Nat.le_refl _) hbel (Nat.le_refl _)) (by omega)
      obtain ⟨c0, c1, c2, c3⟩ := hc k hlt
      clear hc
      go_wp2_with fail
      refine (toSignal33 (P k) _).mono ?_
      rintro e w1 ⟨rfl, hb1⟩
      have hto1 : SsTo w1 w.heap.size n k P := by
        obtain ⟨f, hr, hf⟩ := hto
        exact ⟨f, rowBel hr hb1 hr.lt, hf⟩
      have hbel1 := hbel.trans (hb1.mono hbel.size)
      have hR := hto1.step
      obtain ⟨f, hr1, _⟩ := hto1
      have d0 := hr1.cell (i := k * 4) (by omega)
      have d1 := hr1.cell (i := k * 4 + 1) (by omega)
      have d2 := hr1.cell (i := k * 4 + 2) (by omega)
      have d3 := hr1.cell (i := k * 4 + 3) (by omega)
      have e0 := hr1.frozen (k * 4)
      have e1 := hr1.frozen (k * 4 + 1)
      have e2 := hr1.frozen (k * 4 + 2)
      have e3 := hr1.frozen (k * 4 + 3)
      clear c0 c1 c2 c3 hto hr1
      go_wp2_with fail
      go_roundw
      case rel => exact ⟨k + 1, by omega, by go_num, hR, (((hbel1.setCell (Nat.le_refl _) _).setCell (Nat.le_refl _) _).setCell (Nat.le_refl _) _).setCell (Nat.le_refl _) _⟩
      case measure => simp [intOf]; omega
    · obtain rfl : k = n := by omega
      go_wp2
      go_ret
      exact ⟨rfl, hto.at, hbel⟩

theorem eqSignal36 (p : Pc) (w : World) :
    Calls Try.prog 36 #[.agg #[.string p.nm, .int .i64 p.ln, .int .i64 p.sp, .int .i64 p.br], .agg #[.string p.nm, .int .i64 p.ln, .int .i64 p.sp, .int .i64 p.br]] w fun e w' =>
      e = .returned (.bool true) ∧ Below w.heap.size w w' := by
  go_enter Try.func36, Try.ntmps36
  go_wp2
  go_ret
  exact ⟨rfl, bel2 _ _ _⟩

set_option maxHeartbeats 1000000 in
theorem eqSignalS15 (a a' : Option Addr) (n cap cap' : Nat) (P : Nat → Pc) (w : World) (hn : n ≤ 1048576) (hP : PsAt 0 w a n P) (hP' : PsAt 0 w a' n P) :
    Calls Try.prog 15 #[.slice a n cap, .slice a' n cap'] w fun e w' => e = .returned (.bool true) ∧ Below w.heap.size w w' := by
  go_enter Try.func15, Try.ntmps15
  go_wp2_with fail
  go_loopw [5] (fun i wr => ∃ (k : Nat), k ≤ n ∧ i = .int .i64 k ∧ Below w.heap.size w wr) (fun i _ => n - (intOf i).toNat)
  case atStart => exact ⟨0, Nat.zero_le _, rfl, Below.refl _ _⟩
  case round =>
    obtain ⟨k, hk, rfl, hbel⟩ := hrel
    by_cases hlt : k < n
    · obtain ⟨b, off, rfl, _, hb, hc⟩ := (hP.mono (Nat.le_refl _) hbel (Nat.le_refl _)) (by omega)
      obtain ⟨c0, c1, c2, c3⟩ := hc k hlt
      obtain ⟨b', off', rfl, _, hb', hc'⟩ := (hP'.mono (Nat.le_refl _) hbel (Nat.le_refl _)) (by omega)
      obtain ⟨c0', c1', c2', c3'⟩ := hc' k hlt
      have hlt' : (k : Int) < (n : Int) := by omega
      have hk0 : (0 : Int) ≤ (k : Int) := by omega
      clear hc hc'
      go_wp2_with fail
      go_region_with (go_at_call 36; refine (eqSignal36 (P k) _).mono ?_; rintro e w1 ⟨rfl, hb1⟩)
      all_goals
        go_wp2_with fail
        go_roundw
        case rel => exact ⟨k + 1, by omega, by go_num, hbel.drew.trans (hb1.mono hbel.drew.size)⟩
        case measure => simp [intOf]; omega
    · go_wp2
      go_ret
      exact ⟨rfl, hbel⟩

end Go.Proofs.Ytdkjgedkmnoglaa
