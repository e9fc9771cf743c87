import Derived.Test.YtjhmaofjmalglaaGreatData
import Derived.WalkKit
import Derived.WalkSpells
import Derived.WalkLawsBesides
import Derived.BigQuiet
namespace Go.Proofs.YtjhmaofjmalglaaGreat
open Go.RowKit

def inB (x a b : Int) : Bool := decide (a ≤ x) && decide (x ≤ b)

set_option maxHeartbeats 400000 in
theorem in19 (x a b : Int) (w : World) :
    Calls Tryz.prog 139 #[.int .i64 x, .int .i64 a, .int .i64 b] w fun e w' => e = .returned (.bool (inB x a b)) ∧ w' = w := by
  by_cases h1 : a ≤ x
  · by_cases h2 : x ≤ b
    · go_enter Tryz.func139, Tryz.ntmps139
      go_wp2
      go_ret
      exact ⟨by simp [inB, h1, h2], rfl⟩
    · go_enter Tryz.func139, Tryz.ntmps139
      go_wp2
      go_ret
      exact ⟨by simp [inB, h1, h2], rfl⟩
  · go_enter Tryz.func139, Tryz.ntmps139
    go_wp2
    go_ret
    exact ⟨by simp [inB]; omega, rfl⟩

set_option maxHeartbeats 400000 in
theorem within43 (x a b : Int) (w : World) :
    Calls Tryz.prog 43 #[.int .i64 x, .int .i64 a, .int .i64 b] w fun e w' => e = .returned (.bool (inB x a b)) ∧ w' = w := by
  by_cases h1 : a ≤ x
  · by_cases h2 : x ≤ b
    · go_enter Tryz.func43, Tryz.ntmps43
      go_wp2
      go_ret
      exact ⟨by simp [inB, h1, h2], rfl⟩
    · go_enter Tryz.func43, Tryz.ntmps43
      go_wp2
      go_ret
      exact ⟨by simp [inB, h1, h2], rfl⟩
  · go_enter Tryz.func43, Tryz.ntmps43
    go_wp2
    go_ret
    exact ⟨by simp [inB]; omega, rfl⟩

def szL (left n : Int) : Int := if left < n then -1 else left - n

set_option maxHeartbeats 400000 in
theorem szPiece37 (nm : ByteArray) (a b c left : Int) (w : World) (hs : nm.size ≤ maxLen) (h0 : 0 ≤ left) (h1 : left ≤ 1048576) :
    Calls Tryz.prog 74 #[.agg #[.string nm, .int .i64 a, .int .i64 b, .int .i64 c], .int .i64 left] w fun e w' =>
      e = .returned (.int .i64 (szL left nm.size)) ∧ Below w.heap.size w w' := by
  unfold maxLen at hs
  by_cases h : left < (nm.size : Int)
  · go_enter Tryz.func74, Tryz.ntmps74
    go_wp2
    go_ret
    exact ⟨by simp [szL]; omega, (Below.refl _ _).alloc (Nat.le_refl _) _⟩
  · go_enter Tryz.func74, Tryz.ntmps74
    go_wp2
    go_ret
    exact ⟨by simp [szL]; omega, (Below.refl _ _).alloc (Nat.le_refl _) _⟩

set_option maxHeartbeats 400000 in
theorem szEndS48 (a : Option Addr) (len cap : Nat) (left : Int) (w : World) (hs : len ≤ maxLen) (h0 : 0 ≤ left) (h1 : left ≤ 1048576) :
    Calls Tryz.prog 118 #[.slice a len cap, .int .i64 left] w fun e w' =>
      e = .returned (.int .i64 (szL left len)) ∧ w' = w := by
  unfold maxLen at hs
  by_cases h : left < (len : Int)
  · go_enter Tryz.func118, Tryz.ntmps118
    go_wp2
    go_ret
    exact ⟨by simp [szL]; omega, rfl⟩
  · go_enter Tryz.func118, Tryz.ntmps118
    go_wp2
    go_ret
    exact ⟨by simp [szL]; omega, rfl⟩

set_option maxHeartbeats 400000 in
theorem toPiece40 (p : Pc) (w : World) :
    Calls Tryz.prog 81 #[.agg #[.string p.nm, .int .i64 p.ln, .int .i64 p.sp, .int .i64 p.br]] w fun e w' =>
      e = .returned (.agg #[.string p.nm, .int .i64 p.ln, .int .i64 p.sp, .int .i64 p.br]) ∧ Below w.heap.size w w' := by
  go_enter Tryz.func81, Tryz.ntmps81
  go_wp2
  exact bodyPost_ret (v := .agg #[.string p.nm, .int .i64 p.ln, .int .i64 p.sp, .int .i64 p.br]) (by simp [results, Tryz.results81, go_sem]) rfl ⟨rfl, bel3 _ _ _ _⟩

set_option maxHeartbeats 400000 in
theorem toEnd52 (a b : Int) (w : World) :
    Calls Tryz.prog 142 #[.agg #[.int .i64 a, .int .i64 b]] w fun e w' =>
      e = .returned (.agg #[.int .i64 a, .int .i64 b]) ∧ Below w.heap.size w w' := by
  go_enter Tryz.func142, Tryz.ntmps142
  go_wp2
  exact bodyPost_ret (v := .agg #[.int .i64 a, .int .i64 b]) (by simp [results, Tryz.results142, go_sem]) rfl ⟨rfl, bel3 _ _ _ _⟩

/-- where all fields are alike the answer is true -/
theorem eqPiece46 (p : Pc) (w : World) :
    Calls Tryz.prog 93 #[.agg #[.string p.nm, .int .i64 p.ln, .int .i64 p.sp, .int .i64 p.br], .agg #[.string p.nm, .int .i64 p.ln, .int .i64 p.sp, .int .i64 p.br]] w fun e w' =>
      e = .returned (.bool true) ∧ Below w.heap.size w w' := by
  go_enter Tryz.func93, Tryz.ntmps93
  go_wp2
  go_ret
  exact ⟨rfl, bel2 _ _ _⟩

theorem eqEnd53 (a b : Int) (w : World) :
    Calls Tryz.prog 146 #[.agg #[.int .i64 a, .int .i64 b], .agg #[.int .i64 a, .int .i64 b]] w fun e w' =>
      e = .returned (.bool true) ∧ Below w.heap.size w w' := by
  go_enter Tryz.func146, Tryz.ntmps146
  go_wp2
  go_ret
  exact ⟨rfl, bel2 _ _ _⟩

end Go.Proofs.YtjhmaofjmalglaaGreat
