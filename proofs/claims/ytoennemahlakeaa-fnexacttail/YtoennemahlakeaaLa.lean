import Derived.Test.YtoennemahlakeaaTo
import Derived.Test.YtoennemahlakeaaEq
import Derived.Test.YtoennemahlakeaaImpl
import Derived.Deep.RegionWith
namespace Go.Proofs.Ytoennemahlakeaa
open Go.RowKit

theorem firstB_some {p : Nat → Bool} {n k : Nat} (h : firstB p n = none) (hk : k < n) : p k = false := by
  induction n with
  | zero => omega
  | succ n ih =>
    simp only [firstB] at h
    cases h1 : firstB p n with
    | some i => rw [h1] at h; simp at h
    | none =>
      rw [h1] at h
      by_cases e : k = n
      · subst e
        cases hp : p k with
        | false => rfl
        | true => simp [hp] at h
      · exact ih h1 (by omega)

theorem netF_zero {n : Nat} {P : Nat → Pc} {m : Nat} {J : Nat → Jt} (h : (netF n P m J).1 = 0) : netF n P m J = (0, 0) ∧ ∀ i, i < n → 1 ≤ (P i).ln ∧ (P i).ln ≤ 10000000 := by
  unfold netF at h ⊢
  by_cases h0 : n = 0 ∨ 100 < n ∨ 120 < m
  · rw [if_pos h0] at h; simp at h
  · rw [if_neg h0] at h ⊢
    unfold stage2 at h ⊢
    cases h2 : firstB (pieceBad P) n with
    | some i => rw [h2] at h; simp at h
    | none =>
      rw [h2] at h
      simp only at h ⊢
      refine ⟨?_, fun i hi => ?_⟩
      · unfold stage3 at h ⊢
        cases h3 : firstB (fun j => endsBad n (J j)) m with
        | some i => rw [h3] at h; simp at h
        | none =>
          rw [h3] at h
          simp only at h ⊢
          unfold stage4 at h ⊢
          cases h4 : firstB (nameBad J) m with
          | some i => rw [h4] at h; simp at h
          | none =>
            rw [h4] at h
            simp only at h ⊢
            unfold stage5 at h ⊢
            cases h5 : firstB (looseBad J m) n with
            | some i => rw [h5] at h; simp at h
            | none => rfl
      · have := firstB_some h2 hi
        simp only [pieceBad, Bool.or_eq_false_iff, Bool.not_eq_eq_eq_not, Bool.not_false, inB, Bool.and_eq_true, decide_eq_true_eq] at this
        exact this.1.1.1.2

/-- a list of numbers -/
def IsAt (C : Nat) (w : World) (a : Option Addr) (n : Nat) (D : Nat → Int) : Prop :=
  0 < n → ∃ b off, a = some ⟨b, off, none⟩ ∧ C ≤ b ∧ b < w.heap.size ∧ ∀ i, i < n → w.cell? ⟨b, off + i, none⟩ = some (.int .i64 (D i))
theorem IsAt.keep {C C' : Nat} {w w' : World} {a : Option Addr} {n : Nat} {D : Nat → Int} (h : IsAt C w a n D) (hC : C' ≤ C) (hs : w.heap.size ≤ w'.heap.size)
    (hk : ∀ b, C ≤ b → b < w.heap.size → w'.heap[b]? = w.heap[b]?) : IsAt C' w' a n D := by
  intro h0
  obtain ⟨b, off, ha, hge, hlt, hc⟩ := h h0
  exact ⟨b, off, ha, by omega, by omega, fun i hi => (World.cell?_of_block (w := w) (hk b hge hlt)).trans (hc i hi)⟩
theorem IsAt.mono {C C' : Nat} {w w' : World} {a : Option Addr} {n : Nat} {D : Nat → Int} {B : Nat} (h : IsAt C w a n D) (hC : C' ≤ C) (hb : Below B w w') (hB : w.heap.size ≤ B) : IsAt C' w' a n D :=
  h.keep hC hb.size fun b _ hlt => hb.block b (by omega)

def IsTo (wr : World) (B n k : Nat) (D : Nat → Int) : Prop := ∃ f, wr.rowIs B 3 n f ∧ ∀ j, j < k → f j = .int .i64 (D j)
theorem IsTo.step {w : World} {B n k : Nat} {D : Nat → Int} (h : IsTo w B n k D) : IsTo (w.setCell ⟨B, k, none⟩ (.int .i64 (D k))) B n (k + 1) D := by
  obtain ⟨f, hr, hf⟩ := h
  refine ⟨_, hr.set _ _, fun j hj => ?_⟩
  by_cases e : j = k
  · subst e
    simp
  · simp only [e, if_false]
    exact hf j (by omega)
theorem IsTo.at {w : World} {B n : Nat} {D : Nat → Int} (h : IsTo w B n n D) : IsAt B w (some ⟨B, 0, none⟩) n D := by
  obtain ⟨f, hr, hf⟩ := h
  intro _
  refine ⟨B, 0, rfl, Nat.le_refl _, hr.lt, fun i hi => ?_⟩
  rw [Nat.zero_add, ← hf i hi]
  exact hr.cell (by omega)

theorem info3i : (Try.prog.info? 3).map (fun i => (i.zero, i.size, i.bytes)) = some (some (.int .i64 0), 1, 8) := by kernel_rfl

set_option maxHeartbeats 1000000 in
theorem toIntS10 (a : Option Addr) (n cap : Nat) (D : Nat → Int) (w : World) (hn : n ≤ 1048576) (hE : IsAt 0 w a n D) :
    Calls Try.prog 10 #[.slice a n cap] w fun e w' => ∃ a', e = .returned (.slice a' n n) ∧ IsAt w.heap.size w' a' n D ∧ Below w.heap.size w w' := by
  have hmk := make_rows (P := Try.prog) 26 3 _ 8 1 Try.underlying26 info3i n (by omega) (by omega)
  have hf0 : IsTo (w.alloc (.cells (mk0 (.int .i64 0) (n * 1)) 3)) w.heap.size n 0 D := by
    obtain ⟨f0, hf0⟩ := row_mk0 w (.int .i64 0) (n * 1) 3
    rw [Nat.mul_one] at hf0 ⊢
    exact ⟨f0, hf0, fun j hj => absurd hj (Nat.not_lt_zero _)⟩
  go_enter Try.func10, Try.ntmps10
  go_wp2_with fail
  go_loopw [4] (fun i wr => ∃ (k : Nat), k ≤ n ∧ i = .int .i64 k ∧ IsTo wr w.heap.size n k D ∧ Below w.heap.size w wr) (fun i _ => n - (intOf i).toNat)
  case atStart => exact ⟨0, Nat.zero_le _, rfl, by simpa only [Nat.mul_one] using hf0, bel1 _ _⟩
  case round =>
    obtain ⟨k, hk, rfl, hto, hbel⟩ := hrel
    clear hf0 hmk
    by_cases hlt : k < n
    · obtain ⟨b, off, rfl, _, hb, hc⟩ := (hE.mono (Nat.le_refl _) hbel (Nat.le_refl _)) (by omega)
      have c0 := hc k hlt
      have hR := hto.step
      obtain ⟨f, hr1, _⟩ := hto
      have d0 := hr1.cell (i := k) (by omega)
      have e0 := hr1.frozen k
      clear hc hr1
      go_wp2_with fail
      go_roundw
      case rel => exact ⟨k + 1, by omega, by go_num, hR, hbel.setCell (Nat.le_refl _) _⟩
      case measure => simp [intOf]; omega
    · obtain rfl : k = n := by omega
      go_wp2
      go_ret
      exact ⟨_, rfl, hto.at, hbel⟩

set_option maxHeartbeats 1000000 in
theorem eqIntS13 (a a' : Option Addr) (n cap cap' : Nat) (D : Nat → Int) (w : World) (hn : n ≤ 1048576) (hE : IsAt 0 w a n D) (hE' : IsAt 0 w a' n D) :
    Calls Try.prog 13 #[.slice a n cap, .slice a' n cap'] w fun e w' => e = .returned (.bool true) ∧ Below w.heap.size w w' := by
  go_enter Try.func13, Try.ntmps13
  go_wp2_with fail
  go_loopw [5] (fun i wr => ∃ (k : Nat), k ≤ n ∧ i = .int .i64 k ∧ Below w.heap.size w wr) (fun i _ => n - (intOf i).toNat)
  case atStart => exact ⟨0, Nat.zero_le _, rfl, Below.refl _ _⟩
  case round =>
    obtain ⟨k, hk, rfl, hbel⟩ := hrel
    by_cases hlt : k < n
    · obtain ⟨b, off, rfl, _, hb, hc⟩ := (hE.mono (Nat.le_refl _) hbel (Nat.le_refl _)) (by omega)
      obtain ⟨b', off', rfl, _, hb', hc'⟩ := (hE'.mono (Nat.le_refl _) hbel (Nat.le_refl _)) (by omega)
      have c0 := hc k hlt
      have d0 := hc' k hlt
      have hlt' : (k : Int) < (n : Int) := by omega
      have hk0 : (0 : Int) ≤ (k : Int) := by omega
      clear hc hc'
      go_wp2_with fail
      go_quiet (fail)
      go_wp2_with fail
      go_roundw
      case rel => exact ⟨k + 1, by omega, by go_num, below_drewN hbel _⟩
      case measure => simp [intOf]; omega
    · go_wp2
      go_ret
      exact ⟨rfl, hbel⟩

theorem l22in53 (x a b : Int) (w : World) :
    Calls Try.prog 53 #[.int .i64 x, .int .i64 a, .int .i64 b] w fun e w' => e = .returned (.bool (inB x a b)) ∧ w' = w := by
  by_cases h1 : a ≤ x
  · by_cases h2 : x ≤ b
    · go_enter Try.func53, Try.ntmps53
      go_wp2
      go_ret
      exact ⟨by simp [inB, h1, h2], rfl⟩
    · go_enter Try.func53, Try.ntmps53
      go_wp2
      go_ret
      exact ⟨by simp [inB, h1, h2], rfl⟩
  · go_enter Try.func53, Try.ntmps53
    go_wp2
    go_ret
    exact ⟨by simp [inB]; omega, rfl⟩

def mostL (k : Int) : Int := if k = 3 then 2 else 0

set_option maxRecDepth 100000 in
set_option maxHeartbeats 1000000 in
theorem mostLie32 (k : Int) (w : World) :
    Calls Try.prog 32 #[kindV k] w fun e w' => e = .returned (.int .i64 (mostL k)) ∧ w' = w := by
  have h5 : k = 1 ∨ k = 2 ∨ k = 3 ∨ k = 4 ∨ (k ≠ 1 ∧ k ≠ 2 ∧ k ≠ 3 ∧ k ≠ 4) := by omega
  rcases h5 with rfl | rfl | rfl | rfl | ⟨h1, h2, h3, h4⟩
  · rw [show kindV 1 = .iface 106 (.agg #[]) from rfl]
    have t1 := ta97_99
    go_enter Try.func32, Try.ntmps32
    go_wp2_with fail
    go_ret
    exact ⟨rfl, rfl⟩
  · rw [show kindV 2 = .iface 107 (.agg #[]) from rfl]
    have t1 := ta98_99
    go_enter Try.func32, Try.ntmps32
    go_wp2_with fail
    go_ret
    exact ⟨rfl, rfl⟩
  · rw [show kindV 3 = .iface 105 (.agg #[]) from rfl]
    have t1 := ta99_99
    go_enter Try.func32, Try.ntmps32
    go_wp2_with fail
    go_ret
    exact ⟨rfl, rfl⟩
  · rw [show kindV 4 = .iface 108 (.agg #[]) from rfl]
    have t1 := ta100_99
    go_enter Try.func32, Try.ntmps32
    go_wp2_with fail
    go_ret
    exact ⟨rfl, rfl⟩
  · rw [show kindV k = .nilIface by simp [kindV, h1, h2, h3, h4]]
    have t1 := tanil_99
    go_enter Try.func32, Try.ntmps32
    go_wp2_with fail
    go_ret
    exact ⟨by simp [mostL, h3], rfl⟩

/-- how one joint lies -/
def lieB (J : Nat → Jt) (L : Nat → Int) (i : Nat) : Bool := inB (L i) 0 (mostL (J i).kd)
def allL (p : Nat → Bool) : Nat → Bool
  | 0 => true
  | k + 1 => allL p k && p k
theorem allL_yes {p : Nat → Bool} {n : Nat} (h : ∀ q, q < n → p q = true) : allL p n = true := by
  induction n with
  | zero => rfl
  | succ n ih => simp [allL, ih (fun q hq => h q (by omega)), h n (by omega)]
theorem allL_no {p : Nat → Bool} {n k : Nat} (hk : k < n) (h : p k = false) : allL p n = false := by
  induction n with
  | zero => omega
  | succ n ih =>
    by_cases e : k = n
    · subst e
      simp [allL, h]
    · simp [allL, ih (by omega)]
def liesB (m : Nat) (J : Nat → Jt) (nl : Nat) (L : Nat → Int) : Bool := decide (nl = m) && allL (lieB J L) m
def liesF (n : Nat) (P : Nat → Pc) (m : Nat) (J : Nat → Jt) (nl : Nat) (L : Nat → Int) : Bool := decide ((netF n P m J).1 = 0) && liesB m J nl L
theorem lieB_eq (J : Nat → Jt) (L : Nat → Int) (i : Nat) : lieB J L i = (inB (L i) 0 2 && (decide (L i = 0) || decide ((J i).kd = 3))) := by
  unfold lieB inB mostL
  by_cases h : (J i).kd = 3
  · simp [h]
  · simp only [h, if_false, decide_false, Bool.or_false]
    by_cases h1 : L i = 0
    · simp [h1]
    · simp only [h1, decide_false, Bool.and_false, Bool.and_eq_false_iff, decide_eq_false_iff_not]
      omega

end Go.Proofs.Ytoennemahlakeaa
