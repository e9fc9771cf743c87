import Derived.Test.YtooebighlohobaaSz
namespace Go.Proofs.Ytooebighlohobaa
open Go.RowKit

def inB (x a b : Int) : Bool := decide (a ≤ x) && decide (x ≤ b)
/-- all of the first n -/
def allB (f : Nat → Bool) : Nat → Bool
  | 0 => true
  | n + 1 => allB f n && f n
theorem allB_iff {f : Nat → Bool} : ∀ {n : Nat}, allB f n = true ↔ ∀ i, i < n → f i = true
  | 0 => ⟨fun _ i hi => absurd hi (Nat.not_lt_zero _), fun _ => rfl⟩
  | n + 1 => by
    simp only [allB, Bool.and_eq_true, allB_iff (n := n)]
    refine ⟨fun h i hi => ?_, fun h => ⟨fun i hi => h i (by omega), h n (by omega)⟩⟩
    by_cases e : i = n
    · subst e
      exact h.2
    · exact h.1 i (by omega)
theorem allB_no {f : Nat → Bool} {n k : Nat} (hk : k < n) (h : f k = false) : allB f n = false := by
  cases e : allB f n with
  | false => rfl
  | true => rw [allB_iff.1 e k hk] at h; cases h
theorem allB_congr {f g : Nat → Bool} {n : Nat} (h : ∀ i, i < n → f i = g i) : allB f n = allB g n := by
  cases e : allB g n with
  | true => exact allB_iff.2 fun i hi => (h i hi).trans (allB_iff.1 e i hi)
  | false =>
    cases e2 : allB f n with
    | false => rfl
    | true => rw [allB_iff.2 fun i hi => (h i hi).symm.trans (allB_iff.1 e2 i hi)] at e; cases e
/-- one of the first n -/
def anyB (f : Nat → Bool) (n : Nat) : Bool := !allB (fun i => !f i) n
theorem anyB_yes {f : Nat → Bool} {n k : Nat} (hk : k < n) (h : f k = true) : anyB f n = true := by
  simp [anyB, allB_no (f := fun i => !f i) hk (by simp [h])]
theorem anyB_no {f : Nat → Bool} {n : Nat} (h : ∀ i, i < n → f i = false) : anyB f n = false := by
  have : allB (fun i => !f i) n = true := allB_iff.2 fun i hi => by simp [h i hi]
  simp [anyB, this]
theorem anyB_iff {f : Nat → Bool} {n : Nat} : anyB f n = true ↔ ∃ i, i < n ∧ f i = true := by
  refine ⟨fun h => ?_, fun ⟨i, hi, h⟩ => anyB_yes hi h⟩
  cases e : allB (fun i => !f i) n with
  | true => simp [anyB, e] at h
  | false =>
    apply Classical.byContradiction
    intro hn
    have : allB (fun i => !f i) n = true := allB_iff.2 fun i hi => by
      cases e2 : f i with
      | false => rfl
      | true => exact absurd ⟨i, hi, e2⟩ hn
    rw [this] at e
    cases e
/-- the first of n -/
def firstB (p : Nat → Bool) : Nat → Option Nat
  | 0 => none
  | k + 1 => match firstB p k with
    | some i => some i
    | none => if p k then some k else none
theorem firstB_none {p : Nat → Bool} {n : Nat} (h : ∀ q, q < n → p q = false) : firstB p n = none := by
  induction n with
  | zero => rfl
  | succ n ih => simp [firstB, ih (fun q hq => h q (by omega)), h n (by omega)]
theorem firstB_hit {p : Nat → Bool} {n k : Nat} (h : ∀ q, q < k → p q = false) (hk : k < n) (hp : p k = true) : firstB p n = some k := by
  induction n with
  | zero => omega
  | succ n ih =>
    by_cases e : k = n
    · subst e
      simp [firstB, firstB_none h, hp]
    · simp [firstB, ih (by omega)]

/-- number i of a list is one of m, and none ahead of it is the same -/
def elF (S : Nat → Int) (m : Int) (i : Nat) : Bool := inB (S i) 0 (m - 1) && allB (fun k => decide (S k ≠ S i)) i
/-- numbers below m, none twice, not too many -/
def listF (S : Nat → Int) (n : Nat) (m : Int) : Bool := allB (elF S m) n && decide (n ≤ 30)
/-- a turn of a list is one of m switches, and none ahead of it is of the same -/
def tuF (L : Nat → Nat → Int) (m : Nat) (i : Nat) : Bool := inB (L i 0) 0 ((m : Int) - 1) && inB (L i 1) 1 2 && allB (fun k => decide (L k 0 ≠ L i 0)) i
def liesF (L : Nat → Nat → Int) (n m : Nat) : Bool := allB (tuF L m) n && decide (n ≤ 30)
/-- two lists have a number in common -/
def meetF (A : Nat → Int) (n : Nat) (B : Nat → Int) (m : Nat) : Bool := anyB (fun i => anyB (fun j => decide (A i = B j)) m) n
/-- a turn on the way: no flank is of its switch, and its section is the way's -/
def onF (p : Pl) (y : Wy) (i : Nat) : Bool := allB (fun j => decide (y.L i 0 ≠ y.F j 0)) y.nf && meetF (fun _ => p.W (y.L i 0).toNat) 1 y.S y.ns
def wayF (p : Pl) (y : Wy) : Bool := decide (0 < y.ns) && listF y.S y.ns p.sec && listF y.O y.no p.sec && listF y.M y.nm p.sec && liesF y.L y.nl p.nw && liesF y.F y.nf p.nw && allB (onF p y) y.nl && !meetF y.O y.no y.S y.ns
/-- a bar that is not right -/
def barF (p : Pl) (i k : Nat) : Bool := decide (p.T i k ≠ p.T k i) || (decide (i ≠ k) && !p.T i k && meetF (p.Y i).S (p.Y i).ns (p.Y k).S (p.Y k).ns)
def plan5 (p : Pl) : Int × Int := match firstB (fun i => anyB (barF p i) (p.K i)) p.nb with
  | some i => (5, (i : Int))
  | none => (0, 0)
def plan4 (p : Pl) : Int × Int := if p.nb = p.ny then match firstB (fun i => decide (p.K i ≠ p.ny)) p.nb with
  | some i => (4, (i : Int))
  | none => plan5 p else (4, 0)
def plan3 (p : Pl) : Int × Int := match firstB (fun i => !wayF p (p.Y i)) p.ny with
  | some i => (3, (i : Int))
  | none => plan4 p
def plan2 (p : Pl) : Int × Int := match firstB (fun i => !inB (p.W i) 0 (p.sec - 1)) p.nw with
  | some i => (2, (i : Int))
  | none => plan3 p
/-- the plan's numbers are ones that can be -/
def headF (p : Pl) : Bool := inB p.sec 1 60 && inB p.hold 1 300 && decide (p.nw ≤ 40) && decide (p.ny ≤ 100)
/-- what is wrong with a plan -/
def planF (p : Pl) : Int × Int := if headF p then plan2 p else (1, 0)

end Go.Proofs.Ytooebighlohobaa
