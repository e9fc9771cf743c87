import Derived.Test.YtflomaagenjfpaaMd
namespace Go.Proofs.Ytflomaagenjfpaa
open Go.RowKit

def inB (x a b : Int) : Bool := decide (a ≤ x) && decide (x ≤ b)

/-- all of the first n -/
def allB (f : Nat → Bool) : Nat → Bool
  | 0 => true
  | n + 1 => allB f n && f n

theorem allB_iff {f : Nat → Bool} : ∀ {n : Nat}, allB f n = true ↔ ∀ i, i < n → f i = true
  | 0 => ⟨fun _ i hi => absurd hi (Nat.not_lt_zero _), fun _ => rfl⟩
  | n + 1 => by
    simp only [allB, Bool.and_eq_true, allB_iff (n := n)]
    refine ⟨fun h i hi => ?_, fun h => ⟨fun i hi => h i (by omega), h n (by omega)⟩⟩
    by_cases e : i = n
    · subst e
      exact h.2
    · exact h.1 i (by omega)

theorem allB_no {f : Nat → Bool} {n k : Nat} (hk : k < n) (h : f k = false) : allB f n = false := by
  cases e : allB f n with
  | false => rfl
  | true => rw [allB_iff.1 e k hk] at h; cases h

/-- whether a signal's next one and its distance can be -/
def nextB (r : Rw) (i : Nat) : Bool := inB (r.X i) (-1) ((r.nn : Int) - 1) && inB (r.F i) 0 1000000
/-- as many of all -/
def evenB (r : Rw) : Bool := decide (r.nn ≤ 60) && (decide (r.nf = r.nn) && (decide (r.no = r.nn) && decide (r.nk = r.nn)))
/-- what is wrong with a row -/
def rowF (r : Rw) : Int := if evenB r then (if allB (nextB r) r.nn then (if allB (fun i => decide (r.K i = 4)) r.nk then 0 else 3) else 2) else 1

set_option maxHeartbeats 400000 in
theorem in22 (x a b : Int) (w : World) :
    Calls Try.prog 22 #[.int .i64 x, .int .i64 a, .int .i64 b] w fun e w' => e = .returned (.bool (inB x a b)) ∧ w' = w := by
  by_cases h1 : a ≤ x
  · by_cases h2 : x ≤ b
    · go_enter Try.func22, Try.ntmps22
      go_wp2
      go_ret
      exact ⟨by simp [inB, h1, h2], rfl⟩
    · go_enter Try.func22, Try.ntmps22
      go_wp2
      go_ret
      exact ⟨by simp [inB, h1, h2], rfl⟩
  · go_enter Try.func22, Try.ntmps22
    go_wp2
    go_ret
    exact ⟨by simp [inB]; omega, rfl⟩

set_option maxHeartbeats 400000 in
theorem within26 (x a b : Int) (w : World) :
    Calls Try.prog 26 #[.int .i64 x, .int .i64 a, .int .i64 b] w fun e w' => e = .returned (.bool (inB x a b)) ∧ w' = w := by
  by_cases h1 : a ≤ x
  · by_cases h2 : x ≤ b
    · go_enter Try.func26, Try.ntmps26
      go_wp2
      go_ret
      exact ⟨by simp [inB, h1, h2], rfl⟩
    · go_enter Try.func26, Try.ntmps26
      go_wp2
      go_ret
      exact ⟨by simp [inB, h1, h2], rfl⟩
  · go_enter Try.func26, Try.ntmps26
    go_wp2
    go_ret
    exact ⟨by simp [inB]; omega, rfl⟩

end Go.Proofs.Ytflomaagenjfpaa
