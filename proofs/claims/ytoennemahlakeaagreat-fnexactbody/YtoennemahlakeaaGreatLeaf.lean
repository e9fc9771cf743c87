import Derived.Test.YtoennemahlakeaaGreatData
import Derived.WalkKit
import Derived.WalkSpells
import Derived.WalkLawsBesides
import Derived.BigQuiet
namespace Go.Proofs.YtoennemahlakeaaGreat
open Go.RowKit

def inB (x a b : Int) : Bool := decide (a ≤ x) && decide (x ≤ b)

set_option maxHeartbeats 400000 in
theorem in19 (x a b : Int) (w : World) :
    Calls Tryz.prog 98 #[.int .i64 x, .int .i64 a, .int .i64 b] w fun e w' => e = .returned (.bool (inB x a b)) ∧ w' = w := by
  by_cases h1 : a ≤ x
  · by_cases h2 : x ≤ b
    · go_enter Tryz.func98, Tryz.ntmps98
      go_wp2
      go_ret
      exact ⟨by simp [inB, h1, h2], rfl⟩
    · go_enter Tryz.func98, Tryz.ntmps98
      go_wp2
      go_ret
      exact ⟨by simp [inB, h1, h2], rfl⟩
  · go_enter Tryz.func98, Tryz.ntmps98
    go_wp2
    go_ret
    exact ⟨by simp [inB]; omega, rfl⟩

set_option maxHeartbeats 400000 in
theorem within43 (x a b : Int) (w : World) :
    Calls Tryz.prog 55 #[.int .i64 x, .int .i64 a, .int .i64 b] w fun e w' => e = .returned (.bool (inB x a b)) ∧ w' = w := by
  by_cases h1 : a ≤ x
  · by_cases h2 : x ≤ b
    · go_enter Tryz.func55, Tryz.ntmps55
      go_wp2
      go_ret
      exact ⟨by simp [inB, h1, h2], rfl⟩
    · go_enter Tryz.func55, Tryz.ntmps55
      go_wp2
      go_ret
      exact ⟨by simp [inB, h1, h2], rfl⟩
  · go_enter Tryz.func55, Tryz.ntmps55
    go_wp2
    go_ret
    exact ⟨by simp [inB]; omega, rfl⟩

def szL (left n : Int) : Int := if left < n then -1 else left - n

set_option maxHeartbeats 400000 in
theorem szPiece37 (nm : ByteArray) (a b c left : Int) (w : World) (hs : nm.size ≤ maxLen) (h0 : 0 ≤ left) (h1 : left ≤ 1048576) :
    Calls Tryz.prog 45 #[.agg #[.string nm, .int .i64 a, .int .i64 b, .int .i64 c], .int .i64 left] w fun e w' =>
      e = .returned (.int .i64 (szL left nm.size)) ∧ Below w.heap.size w w' := by
  unfold maxLen at hs
  by_cases h : left < (nm.size : Int)
  · go_enter Tryz.func45, Tryz.ntmps45
    go_wp2
    go_ret
    exact ⟨by simp [szL]; omega, (Below.refl _ _).alloc (Nat.le_refl _) _⟩
  · go_enter Tryz.func45, Tryz.ntmps45
    go_wp2
    go_ret
    exact ⟨by simp [szL]; omega, (Below.refl _ _).alloc (Nat.le_refl _) _⟩

set_option maxHeartbeats 400000 in
theorem szEndS48 (a : Option Addr) (len cap : Nat) (left : Int) (w : World) (hs : len ≤ maxLen) (h0 : 0 ≤ left) (h1 : left ≤ 1048576) :
    Calls Tryz.prog 75 #[.slice a len cap, .int .i64 left] w fun e w' =>
      e = .returned (.int .i64 (szL left len)) ∧ w' = w := by
  unfold maxLen at hs
  by_cases h : left < (len : Int)
  · go_enter Tryz.func75, Tryz.ntmps75
    go_wp2
    go_ret
    exact ⟨by simp [szL]; omega, rfl⟩
  · go_enter Tryz.func75, Tryz.ntmps75
    go_wp2
    go_ret
    exact ⟨by simp [szL]; omega, rfl⟩

set_option maxHeartbeats 400000 in
theorem toPiece40 (p : Pc) (w : World) :
    Calls Tryz.prog 50 #[.agg #[.string p.nm, .int .i64 p.ln, .int .i64 p.sp, .int .i64 p.br]] w fun e w' =>
      e = .returned (.agg #[.string p.nm, .int .i64 p.ln, .int .i64 p.sp, .int .i64 p.br]) ∧ Below w.heap.size w w' := by
  go_enter Tryz.func50, Tryz.ntmps50
  go_wp2
  exact bodyPost_ret (v := .agg #[.string p.nm, .int .i64 p.ln, .int .i64 p.sp, .int .i64 p.br]) (by simp [results, Tryz.results50, go_sem]) rfl ⟨rfl, bel3 _ _ _ _⟩

set_option maxHeartbeats 400000 in
theorem toEnd52 (a b : Int) (w : World) :
    Calls Tryz.prog 104 #[.agg #[.int .i64 a, .int .i64 b]] w fun e w' =>
      e = .returned (.agg #[.int .i64 a, .int .i64 b]) ∧ Below w.heap.size w w' := by
  go_enter Tryz.func104, Tryz.ntmps104
  go_wp2
  exact bodyPost_ret (v := .agg #[.int .i64 a, .int .i64 b]) (by simp [results, Tryz.results104, go_sem]) rfl ⟨rfl, bel3 _ _ _ _⟩

/-- where all fields are alike the answer is true -/
theorem eqPiece46 (p : Pc) (w : World) :
    Calls Tryz.prog 65 #[.agg #[.string p.nm, .int .i64 p.ln, .int .i64 p.sp, .int .i64 p.br], .agg #[.string p.nm, .int .i64 p.ln, .int .i64 p.sp, .int .i64 p.br]] w fun e w' =>
      e = .returned (.bool true) ∧ Below w.heap.size w w' := by
  go_enter Tryz.func65, Tryz.ntmps65
  go_wp2
  go_ret
  exact ⟨rfl, bel2 _ _ _⟩

theorem eqEnd53 (a b : Int) (w : World) :
    Calls Tryz.prog 109 #[.agg #[.int .i64 a, .int .i64 b], .agg #[.int .i64 a, .int .i64 b]] w fun e w' =>
      e = .returned (.bool true) ∧ Below w.heap.size w w' := by
  go_enter Tryz.func109, Tryz.ntmps109
  go_wp2
  go_ret
  exact ⟨rfl, bel2 _ _ _⟩

end Go.Proofs.YtoennemahlakeaaGreat
