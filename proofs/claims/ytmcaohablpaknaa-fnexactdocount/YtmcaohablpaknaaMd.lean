import Derived.Test.YtmcaohablpaknaaBa
namespace Go.Proofs.Ytmcaohablpaknaa
open Go.RowKit

/-- a section -/
structure Sec where
  told : Int
  count : Int
  lost : Bool
  sweep : Bool
  last : Int
def secV (s : Sec) : Nat → Value
  | 0 => .int .i64 s.told
  | 1 => .int .i64 s.count
  | 2 => .bool s.lost
  | 3 => .bool s.sweep
  | 4 => .int .i64 s.last
  | _ => .int .i64 0
abbrev secF (S : Nat → Sec) (i j : Nat) : Value := secV (S i) j
abbrev boolF (D : Nat → Bool) (i _j : Nat) : Value := .bool (D i)
abbrev intF (K : Nat → Nat → Int) (i j : Nat) : Value := .int .i64 (K i j)

theorem infoInt : (Try.prog.info? 3).map (fun i => (i.zero, i.size, i.bytes)) = some (some (.int .i64 0), 1, 8) := by kernel_rfl
theorem infoBool : (Try.prog.info? 4).map (fun i => (i.zero, i.size, i.bytes)) = some (some (.bool false), 1, 1) := by kernel_rfl
theorem infoCounter : (Try.prog.info? 68).map (fun i => (i.zero, i.size, i.bytes)) = some (some (.agg #[.int .i64 0, .int .i64 0]), 2, 16) := by kernel_rfl
theorem infoSection : (Try.prog.info? 84).map (fun i => (i.zero, i.size, i.bytes)) = some (some (.agg #[.int .i64 0, .int .i64 0, .bool false, .bool false, .int .i64 0]), 5, 32) := by kernel_rfl

end Go.Proofs.Ytmcaohablpaknaa
