import Derived.Test.YtjhmaofjmalglaaGreatData
import Derived.ChangeKeysEq
namespace Go.Proofs.YtjhmaofjmalglaaGreat
open Go.RowKit

theorem part0 (x y : Value) (w : World) : (part 3 #[x, y] (0 * Tryz.prog.cellsOf 3)).run Tryz.prog w = .ok x w := by kernel_rfl
theorem part1 (x y : Value) (w : World) : (part 3 #[x, y] (1 * Tryz.prog.cellsOf 3)).run Tryz.prog w = .ok y w := by kernel_rfl
theorem info3s : (Tryz.prog.info? 3).isSome = true := by kernel_rfl

theorem eq89 (a b : Int) (w : World) : (Op.equalIn 10000 210 (.agg #[.int .i64 a, .int .i64 b]) (.agg #[.int .i64 1, .int .i64 1])).run Tryz.prog w = .ok (a == 1 && b == 1) w := by
  obtain ⟨i, hi⟩ := Option.isSome_iff_exists.1 info3s
  have h := run_equalIn_array w 9999 #[.int .i64 a, .int .i64 b] #[.int .i64 1, .int .i64 1] Tryz.underlying210 hi
  rw [show List.range 2 = [0, 1] from rfl] at h
  have e0 := fun w => run_equalIn_int (P := Tryz.prog) w 9998 3 .i64 .i64 a 1 Tryz.underlying3
  have e1 := fun w => run_equalIn_int (P := Tryz.prog) w 9998 3 .i64 .i64 b 1 Tryz.underlying3
  refine h.trans ?_
  simp only [Op.eqItems, Sem.run_bind, part0, Result.andThen_ok]
  rw [e0]
  simp only [Result.andThen_ok]
  cases h1 : (a == 1)
  · simp
  · simp only [Bool.not_true, Bool.false_eq_true, if_false, Sem.run_bind, part1, Result.andThen_ok]
    rw [e1]
    cases h2 : (b == 1) <;> simp

end Go.Proofs.YtjhmaofjmalglaaGreat
