import Derived.Test.YtpghgdnhfhdgmaaTr
import Derived.Test.YtpghgdnhfhdgmaaMk
namespace Go.Proofs.Ytpghgdnhfhdgmaa
open Go.RowKit

set_option maxHeartbeats 400000 in
theorem szStepS (a : Option Addr) (len cap : Nat) (left : Int) (w : World) (hs : len ≤ maxLen) (h0 : 0 ≤ left) (h1 : left ≤ 1048576) :
    Calls Try.prog 26 #[.slice a len cap, .int .i64 left] w fun e w' => e = .returned (.int .i64 (szL left len)) ∧ w' = w := by
  unfold maxLen at hs
  by_cases h : left < (len : Int)
  · go_enter Try.func26, Try.ntmps26
    go_wp2
    go_ret
    exact ⟨by simp [szL]; omega, rfl⟩
  · go_enter Try.func26, Try.ntmps26
    go_wp2
    go_ret
    exact ⟨by simp [szL]; omega, rfl⟩

set_option maxHeartbeats 400000 in
theorem szLieS (a : Option Addr) (len cap : Nat) (left : Int) (w : World) (hs : len ≤ maxLen) (h0 : 0 ≤ left) (h1 : left ≤ 1048576) :
    Calls Try.prog 27 #[.slice a len cap, .int .i64 left] w fun e w' => e = .returned (.int .i64 (szL left len)) ∧ w' = w := by
  unfold maxLen at hs
  by_cases h : left < (len : Int)
  · go_enter Try.func27, Try.ntmps27
    go_wp2
    go_ret
    exact ⟨by simp [szL]; omega, rfl⟩
  · go_enter Try.func27, Try.ntmps27
    go_wp2
    go_ret
    exact ⟨by simp [szL]; omega, rfl⟩

set_option maxHeartbeats 400000 in
theorem szIntS (a : Option Addr) (len cap : Nat) (left : Int) (w : World) (hs : len ≤ maxLen) (h0 : 0 ≤ left) (h1 : left ≤ 1048576) :
    Calls Try.prog 28 #[.slice a len cap, .int .i64 left] w fun e w' => e = .returned (.int .i64 (szL left len)) ∧ w' = w := by
  unfold maxLen at hs
  by_cases h : left < (len : Int)
  · go_enter Try.func28, Try.ntmps28
    go_wp2
    go_ret
    exact ⟨by simp [szL]; omega, rfl⟩
  · go_enter Try.func28, Try.ntmps28
    go_wp2
    go_ret
    exact ⟨by simp [szL]; omega, rfl⟩

set_option maxHeartbeats 400000 in
theorem szPartS (a : Option Addr) (len cap : Nat) (left : Int) (w : World) (hs : len ≤ maxLen) (h0 : 0 ≤ left) (h1 : left ≤ 1048576) :
    Calls Try.prog 29 #[.slice a len cap, .int .i64 left] w fun e w' => e = .returned (.int .i64 (szL left len)) ∧ w' = w := by
  unfold maxLen at hs
  by_cases h : left < (len : Int)
  · go_enter Try.func29, Try.ntmps29
    go_wp2
    go_ret
    exact ⟨by simp [szL]; omega, rfl⟩
  · go_enter Try.func29, Try.ntmps29
    go_wp2
    go_ret
    exact ⟨by simp [szL]; omega, rfl⟩

set_option maxHeartbeats 400000 in
theorem szFlankS (a : Option Addr) (len cap : Nat) (left : Int) (w : World) (hs : len ≤ maxLen) (h0 : 0 ≤ left) (h1 : left ≤ 1048576) :
    Calls Try.prog 30 #[.slice a len cap, .int .i64 left] w fun e w' => e = .returned (.int .i64 (szL left len)) ∧ w' = w := by
  unfold maxLen at hs
  by_cases h : left < (len : Int)
  · go_enter Try.func30, Try.ntmps30
    go_wp2
    go_ret
    exact ⟨by simp [szL]; omega, rfl⟩
  · go_enter Try.func30, Try.ntmps30
    go_wp2
    go_ret
    exact ⟨by simp [szL]; omega, rfl⟩

theorem szL_neg {left : Int} {n : Nat} (h : szL left n < 0) : left < n := by
  unfold szL at h
  split at h <;> omega
theorem szL_pos {left : Int} {n : Nat} (h : ¬ szL left n < 0) : (n : Int) ≤ left ∧ szL left n = left - n := by
  unfold szL at h ⊢
  split at h
  · omega
  · rename_i h2
    rw [if_neg h2]
    omega

/-- every list of a route may be as long as a slice can be -/
def Rt.fits (r : Rt) : Prop := r.ns ≤ maxLen ∧ r.nl ≤ maxLen ∧ r.nx ≤ maxLen ∧ r.np ≤ maxLen ∧ r.no ≤ maxLen ∧ r.nf ≤ maxLen
/-- how many all its lists hold -/
def Rt.sum (r : Rt) : Nat := r.ns + r.nl + r.nx + r.np + r.no + r.nf
theorem Rt.small_of {r : Rt} (h : r.sum ≤ 1048576) : r.small := by
  unfold Rt.sum at h
  exact ⟨by omega, by omega, by omega, by omega, by omega, by omega⟩

set_option maxRecDepth 100000 in
set_option maxHeartbeats 4000000 in
theorem szRoute (r : Rt) (sa la xa qa oa fa : Option Addr) (sc lc xc qc oc fc : Nat) (left : Int) (w : World) (hs : r.fits) (h0 : 0 ≤ left) (h1 : left ≤ 1048576) :
    Calls Try.prog 6 #[.agg #[.int .i64 r.fr, .int .i64 r.to, .slice sa r.ns sc, .slice la r.nl lc, .slice xa r.nx xc, .slice qa r.np qc, .slice oa r.no oc, .slice fa r.nf fc], .int .i64 left] w fun e w' =>
      ∃ k : Int, e = .returned (.int .i64 k) ∧ (0 ≤ k → (r.sum : Int) + k = left) ∧ k ≤ left ∧ Below w.heap.size w w' := by
  obtain ⟨s1, s2, s3, s4, s5, s6⟩ := hs
  go_enter Try.func6, Try.ntmps6
  go_wp2_with fail
  refine (szStepS sa r.ns sc left _ s1 (by omega) (by omega)).mono ?_
  rintro e w1 ⟨rfl, hw1⟩
  subst hw1
  by_cases g1 : szL (left) r.ns < 0
  · have q1 := szL_neg g1
    go_wp2_with fail
    go_ret
    exact ⟨-1, rfl, by omega, by omega, bel1 _ _⟩
  obtain ⟨q1, e1⟩ := szL_pos g1
  rw [e1]
  clear g1 e1
  go_wp2_with fail
  refine (szLieS la r.nl lc (left - r.ns) _ s2 (by omega) (by omega)).mono ?_
  rintro e w2 ⟨rfl, hw2⟩
  subst hw2
  by_cases g2 : szL ((left - r.ns)) r.nl < 0
  · have q2 := szL_neg g2
    go_wp2_with fail
    go_ret
    exact ⟨-1, rfl, by omega, by omega, bel1 _ _⟩
  obtain ⟨q2, e2⟩ := szL_pos g2
  rw [e2]
  clear g2 e2
  go_wp2_with fail
  refine (szIntS xa r.nx xc ((left - r.ns) - r.nl) _ s3 (by omega) (by omega)).mono ?_
  rintro e w3 ⟨rfl, hw3⟩
  subst hw3
  by_cases g3 : szL (((left - r.ns) - r.nl)) r.nx < 0
  · have q3 := szL_neg g3
    go_wp2_with fail
    go_ret
    exact ⟨-1, rfl, by omega, by omega, bel1 _ _⟩
  obtain ⟨q3, e3⟩ := szL_pos g3
  rw [e3]
  clear g3 e3
  go_wp2_with fail
  refine (szPartS qa r.np qc (((left - r.ns) - r.nl) - r.nx) _ s4 (by omega) (by omega)).mono ?_
  rintro e w4 ⟨rfl, hw4⟩
  subst hw4
  by_cases g4 : szL ((((left - r.ns) - r.nl) - r.nx)) r.np < 0
  · have q4 := szL_neg g4
    go_wp2_with fail
    go_ret
    exact ⟨-1, rfl, by omega, by omega, bel1 _ _⟩
  obtain ⟨q4, e4⟩ := szL_pos g4
  rw [e4]
  clear g4 e4
  go_wp2_with fail
  refine (szPartS oa r.no oc ((((left - r.ns) - r.nl) - r.nx) - r.np) _ s5 (by omega) (by omega)).mono ?_
  rintro e w5 ⟨rfl, hw5⟩
  subst hw5
  by_cases g5 : szL (((((left - r.ns) - r.nl) - r.nx) - r.np)) r.no < 0
  · have q5 := szL_neg g5
    go_wp2_with fail
    go_ret
    exact ⟨-1, rfl, by omega, by omega, bel1 _ _⟩
  obtain ⟨q5, e5⟩ := szL_pos g5
  rw [e5]
  clear g5 e5
  go_wp2_with fail
  refine (szFlankS fa r.nf fc (((((left - r.ns) - r.nl) - r.nx) - r.np) - r.no) _ s6 (by omega) (by omega)).mono ?_
  rintro e w6 ⟨rfl, hw6⟩
  subst hw6
  by_cases g6 : szL ((((((left - r.ns) - r.nl) - r.nx) - r.np) - r.no)) r.nf < 0
  · have q6 := szL_neg g6
    go_wp2_with fail
    go_ret
    exact ⟨-1, rfl, by omega, by omega, bel1 _ _⟩
  obtain ⟨q6, e6⟩ := szL_pos g6
  rw [e6]
  clear g6 e6
  go_wp2_with fail
  go_ret
  exact ⟨_, rfl, by simp only [Rt.sum]; omega, by omega, bel1 _ _⟩


end Go.Proofs.Ytpghgdnhfhdgmaa
