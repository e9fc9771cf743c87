import Derived.Test.YtoennemahlakeaaGreatTg
namespace Go.Proofs.YtoennemahlakeaaGreat
open Go.RowKit Go.Lib

/-- a step of a net -/
def stepB (v : Nv) (p way : Int) : Bool := inB p 0 ((v.n : Int) - 1) && (decide (way = 1) || decide (way = -1))
/-- the step ahead of one of the back's -/
def ahP (fp : Int) (B : Nat → Nat → Int) : Nat → Int
  | 0 => fp
  | i + 1 => B i 0
def ahW (fw : Int) (B : Nat → Nat → Int) : Nat → Int
  | 0 => fw
  | i + 1 => B i 1
/-- how much a body has of its front's piece and of the first of its back -/
def hvF (v : Nv) (fp fa fw : Int) (B : Nat → Nat → Int) : Nat → Int
  | 0 => farI (v.P fp.toNat).ln fa fw
  | i + 1 => hvF v fp fa fw B i + (v.P (B i 0).toNat).ln
def bkB (v : Nv) (fp fa fw lg : Int) (B : Nat → Nat → Int) (i : Nat) : Bool :=
  stepB v (B i 0) (B i 1) && (decide (hvF v fp fa fw B i < lg) && joinB v (B i 0).toNat (B i 1) (ahP fp B i).toNat (ahW fw B i))
def allT (f : Nat → Bool) : Nat → Bool
  | 0 => true
  | k + 1 => allT f k && f k
theorem allT_yes {f : Nat → Bool} : ∀ {k : Nat}, (∀ q, q < k → f q = true) → allT f k = true
  | 0, _ => rfl
  | k + 1, h => by rw [allT, allT_yes fun q hq => h q (by omega), h k (by omega)]; rfl
theorem allT_no {f : Nat → Bool} : ∀ {k q : Nat}, q < k → f q = false → allT f k = false
  | 0, _, h, _ => absurd h (Nat.not_lt_zero _)
  | k + 1, q, h, hf => by
    by_cases e : q = k
    · subst e
      rw [allT, hf, Bool.and_false]
    · rw [allT, allT_no (by omega) hf, Bool.false_and]
theorem allT_at {f : Nat → Bool} : ∀ {k : Nat}, allT f k = true → ∀ q, q < k → f q = true
  | 0, _, q, h => absurd h (Nat.not_lt_zero _)
  | k + 1, hf, q, h => by
    rw [allT, Bool.and_eq_true] at hf
    by_cases e : q = k
    · subst e
      exact hf.2
    · exact allT_at hf.1 q (by omega)
/-- a train of a right net -/
def trnB (v : Nv) (fp fa fw lg : Int) (nb : Nat) (B : Nat → Nat → Int) : Bool :=
  ((spotB v fp fa fw && inB lg 1 100000) && decide (nb ≤ 200)) && (allT (bkB v fp fa fw lg B) nb && decide (lg ≤ hvF v fp fa fw B nb))
theorem spot_nat {v : Nv} {p a way : Int} (h : spotB v p a way = true) : ∃ q : Nat, p = (q : Int) ∧ q < v.n ∧ (way = 1 ∨ way = -1) ∧ 0 ≤ a ∧ a ≤ (v.P q).ln := by
  simp only [spotB, Bool.and_eq_true, Bool.or_eq_true, decide_eq_true_eq] at h
  obtain ⟨⟨h1, h2⟩, h3⟩ := h
  obtain ⟨q, rfl, hq⟩ := inB_nat h1
  rw [Int.toNat_natCast] at h3
  simp only [inB, Bool.and_eq_true, decide_eq_true_eq] at h3
  exact ⟨q, rfl, hq, h2, h3.1, h3.2⟩
theorem step_nat {v : Nv} {p way : Int} (h : stepB v p way = true) : ∃ q : Nat, p = (q : Int) ∧ q < v.n ∧ (way = 1 ∨ way = -1) := by
  simp only [stepB, Bool.and_eq_true, Bool.or_eq_true, decide_eq_true_eq] at h
  obtain ⟨q, rfl, hq⟩ := inB_nat h.1
  exact ⟨q, rfl, hq, h.2⟩
/-- what the back's first steps have together -/
theorem hv_bnd {v : Nv} (ok : v.Ok) {fp fa fw : Int} {B : Nat → Nat → Int} (hs : spotB v fp fa fw = true) : ∀ k, (∀ i, i < k → stepB v (B i 0) (B i 1) = true) → 0 ≤ hvF v fp fa fw B k ∧ hvF v fp fa fw B k ≤ ((k : Int) + 1) * 10000000
  | 0, _ => by
    obtain ⟨q, rfl, hq, hw, h0, h1⟩ := spot_nat hs
    have := ok.ln q hq
    rw [hvF, Int.toNat_natCast, farI]
    split <;> omega
  | k + 1, h => by
    have ih := hv_bnd ok hs k fun i hi => h i (by omega)
    obtain ⟨q, e, hq, _⟩ := step_nat (h k (by omega))
    have := ok.ln q hq
    rw [hvF, e, Int.toNat_natCast]
    push_cast
    omega

end Go.Proofs.YtoennemahlakeaaGreat
