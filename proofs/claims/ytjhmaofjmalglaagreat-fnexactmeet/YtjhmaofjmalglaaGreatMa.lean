import Derived.Test.YtjhmaofjmalglaaGreatZd
import Derived.Laws.Bits64b
import Derived.Laws.BitsLemmas
import Derived.ChangeKeysEq
namespace Go.Proofs.YtjhmaofjmalglaaGreat
open Go.RowKit

theorem and_63 (n : Int) : bits .and .i64 n 63 = n % 64 := by
  have h127 : (BitVec.ofInt 64 63).toNat = 2 ^ 6 - 1 := by decide
  have key : (BitVec.ofInt 64 n &&& BitVec.ofInt 64 63).toNat = (n % ((2 ^ 64 : Nat) : Int)).toNat % 2 ^ 6 := by
    rw [BitVec.toNat_and, BitVec.toNat_ofInt, h127, Nat.and_two_pow_sub_one_eq_mod]
  show IntKind.i64.wrap ((BitVec.ofInt 64 n &&& BitVec.ofInt 64 63).toNat : Nat) = n % 64
  rw [key, IntKind.wrap_i64]
  omega
theorem and_1 (n : Int) : bits .and .i64 n 1 = n % 2 := by
  have h127 : (BitVec.ofInt 64 1).toNat = 2 ^ 1 - 1 := by decide
  have key : (BitVec.ofInt 64 n &&& BitVec.ofInt 64 1).toNat = (n % ((2 ^ 64 : Nat) : Int)).toNat % 2 ^ 1 := by
    rw [BitVec.toNat_and, BitVec.toNat_ofInt, h127, Nat.and_two_pow_sub_one_eq_mod]
  show IntKind.i64.wrap ((BitVec.ofInt 64 n &&& BitVec.ofInt 64 1).toNat : Nat) = n % 2
  rw [key, IntKind.wrap_i64]
  omega

/-- which bit a number has -/
def bt (x : Int) : Nat := 2 ^ (x % 64).toNat
theorem bt_lt (x : Int) : bt x < 18446744073709551616 := by
  have h : (x % 64).toNat < 64 := by omega
  have := Nat.pow_lt_pow_right (a := 2) (by decide) h
  simpa [bt] using this
def mA (a : Nat) (x : Int) : Nat := if x / 64 % 2 = 0 then a ||| bt x else a
def mB (b : Nat) (x : Int) : Nat := if x / 64 % 2 = 0 then b else b ||| bt x
/-- whether a number is marked -/
def mt (a b : Nat) (x : Int) : Bool := if x / 64 % 2 = 0 then a.testBit (x % 64).toNat else b.testBit (x % 64).toNat

theorem or_pow {a q : Nat} : a ||| 2 ^ q = a ↔ a.testBit q = true := by
  constructor
  · intro h
    rw [← h]
    simp
  · intro h
    refine Nat.eq_of_testBit_eq fun i => ?_
    rw [Nat.testBit_or, Nat.testBit_two_pow]
    by_cases e : q = i
    · subst e; simp [h]
    · simp [e]
theorem mt_new (a b : Nat) (x : Int) : mt (mA a x) (mB b x) x = true := by
  unfold mt mA mB
  by_cases h : x / 64 % 2 = 0 <;> simp [h, bt]
theorem mt_keep {a b : Nat} {x y : Int} (h : mt a b y = true) : mt (mA a x) (mB b x) y = true := by
  unfold mt mA mB at *
  by_cases h1 : y / 64 % 2 = 0 <;> by_cases h2 : x / 64 % 2 = 0 <;> simp_all
theorem mt_and (a b c d : Nat) (x : Int) : mt (a &&& c) (b &&& d) x = (mt a b x && mt c d x) := by
  unfold mt
  by_cases h : x / 64 % 2 = 0 <;> simp [h]
theorem mt_zero (x : Int) : mt 0 0 x = false := by
  unfold mt
  simp
theorem mt_iff (a b : Nat) (x : Int) : (mA a x = a ∧ mB b x = b) ↔ mt a b x = true := by
  unfold mt mA mB
  by_cases h : x / 64 % 2 = 0
  · simp [h, bt, or_pow]
  · simp [h, bt, or_pow]
theorem mA_lt {a : Nat} (h : a < 18446744073709551616) (x : Int) : mA a x < 18446744073709551616 := by
  unfold mA
  split
  · exact Nat.or_lt_two_pow (n := 64) h (bt_lt x)
  · exact h
theorem mB_lt {b : Nat} (h : b < 18446744073709551616) (x : Int) : mB b x < 18446744073709551616 := by
  unfold mB
  split
  · exact h
  · exact Nat.or_lt_two_pow (n := 64) h (bt_lt x)

theorem shl_bt (x : Int) (k : Int) (hk : k = x % 64) : Op.shift .shl .u64 1 .i64 k = pure (.int .u64 ((bt x : Nat) : Int)) := by
  subst hk
  have h0 : 0 ≤ x % 64 := by omega
  have h1 : x % 64 < 64 := by omega
  have hm : min (x % 64).toNat 64 = (x % 64).toNat := by omega
  have hb := bt_lt x
  have hbb : IntKind.u64.bits = 64 := rfl
  have hcast : ((2 : Int) ^ (x % 64).toNat) = ((bt x : Nat) : Int) := by unfold bt; simp
  simp only [Op.shift, hbb, hm, Int.one_mul, hcast, IntKind.wrap_u64]
  have : ((bt x : Nat) : Int) % 18446744073709551616 = ((bt x : Nat) : Int) := by omega
  simp [this]
  omega

theorem partM0 (x y : Value) (w : World) : (part 105 #[x, y] (0 * Tryz.prog.cellsOf 105)).run Tryz.prog w = .ok x w := by kernel_rfl
theorem partM1 (x y : Value) (w : World) : (part 105 #[x, y] (1 * Tryz.prog.cellsOf 105)).run Tryz.prog w = .ok y w := by kernel_rfl
theorem info79s : (Tryz.prog.info? 105).isSome = true := by kernel_rfl
theorem eq81 (a b c d : Int) (w : World) : (Op.equalIn 10000 107 (.agg #[.int .u64 a, .int .u64 b]) (.agg #[.int .u64 c, .int .u64 d])).run Tryz.prog w = .ok (a == c && b == d) w := by
  obtain ⟨i, hi⟩ := Option.isSome_iff_exists.1 info79s
  have h := run_equalIn_array w 9999 #[.int .u64 a, .int .u64 b] #[.int .u64 c, .int .u64 d] Tryz.underlying107 hi
  rw [show List.range 2 = [0, 1] from rfl] at h
  have e0 := fun w => run_equalIn_int (P := Tryz.prog) w 9998 105 .u64 .u64 a c Tryz.underlying105
  have e1 := fun w => run_equalIn_int (P := Tryz.prog) w 9998 105 .u64 .u64 b d Tryz.underlying105
  refine h.trans ?_
  simp only [Op.eqItems, Sem.run_bind, partM0, Result.andThen_ok]
  rw [e0]
  simp only [Result.andThen_ok]
  cases h1 : (a == c)
  · simp
  · simp only [Bool.not_true, Bool.false_eq_true, if_false, Sem.run_bind, partM1, Result.andThen_ok]
    rw [e1]
    cases h2 : (b == d) <;> simp

theorem wrap_bt (x : Int) : IntKind.u64.wrap (2 ^ (x % 64).toNat) = ((bt x : Nat) : Int) := by
  have hb := bt_lt x
  have hcast : ((2 : Int) ^ (x % 64).toNat) = ((bt x : Nat) : Int) := by unfold bt; simp
  rw [hcast, IntKind.wrap_u64]
  omega

set_option maxHeartbeats 2000000 in
theorem with65 (a b : Nat) (x : Int) (w : World) (ha : a < 18446744073709551616) (hb : b < 18446744073709551616) :
    Calls Tryz.prog 101 #[.agg #[.int .u64 a, .int .u64 b], .int .i64 x] w fun e w' => e = .returned (.agg #[.int .u64 ((mA a x : Nat) : Int), .int .u64 ((mB b x : Nat) : Int)]) ∧ Below w.heap.size w w' := by
  have h63 := and_63 x
  have hm0 : (0 : Int) ≤ x % 64 := by omega
  have hlt := bt_lt x
  by_cases hp : x / 64 % 2 = 0
  · have h1 : bits .and .i64 (x / 64) 1 = 0 := by rw [and_1]; exact hp
    have HA : Hid (mA a x = a ||| bt x) := by show _ = _; simp [mA, hp]
    have HB : Hid (mB b x = b) := by show _ = _; simp [mB, hp]
    have HW := wrap_bt x
    have hor : bits .or .u64 (a : Int) ((bt x : Nat) : Int) = ((a ||| bt x : Nat) : Int) := bits_or_u64_nat a (bt x) ha hlt
    have HV : Hid (bits .or .u64 (a : Int) (IntKind.u64.wrap (2 ^ (x % 64).toNat)) = ((mA a x : Nat) : Int)) := by
      show _ = _
      rw [HW, hor, HA.out]
    clear hp HW hor
    go_enter Tryz.func101, Tryz.ntmps101
    go_wp2_with fail
    go_region
    all_goals
      go_wp2_with fail
      rw [HV.out, HB.out]
      exact bodyPost_ret (v := .agg #[.int .u64 ((mA a x : Nat) : Int), .int .u64 (b : Int)]) (by simp [results, Tryz.results101, go_sem]) rfl ⟨rfl, (bel2 _ _ _).drew⟩
  · have h1 : bits .and .i64 (x / 64) 1 = 1 := by rw [and_1]; omega
    have HA : Hid (mA a x = a) := by show _ = _; simp [mA, hp]
    have HB : Hid (mB b x = b ||| bt x) := by show _ = _; simp [mB, hp]
    have HW := wrap_bt x
    have hor : bits .or .u64 (b : Int) ((bt x : Nat) : Int) = ((b ||| bt x : Nat) : Int) := bits_or_u64_nat b (bt x) hb hlt
    have HV : Hid (bits .or .u64 (b : Int) (IntKind.u64.wrap (2 ^ (x % 64).toNat)) = ((mB b x : Nat) : Int)) := by
      show _ = _
      rw [HW, hor, HB.out]
    clear hp HW hor
    go_enter Tryz.func101, Tryz.ntmps101
    go_wp2_with fail
    go_region
    all_goals
      go_wp2_with fail
      rw [HV.out, HA.out]
      exact bodyPost_ret (v := .agg #[.int .u64 (a : Int), .int .u64 ((mB b x : Nat) : Int)]) (by simp [results, Tryz.results101, go_sem]) rfl ⟨rfl, (bel2 _ _ _).drew⟩

set_option maxHeartbeats 2000000 in
theorem has67 (a b : Nat) (x : Int) (w : World) (ha : a < 18446744073709551616) (hb : b < 18446744073709551616) :
    Calls Tryz.prog 105 #[.agg #[.int .u64 a, .int .u64 b], .int .i64 x] w fun e w' => e = .returned (.bool (mt a b x)) ∧ Below w.heap.size w w' := by
  have HQ : Hid ((((mA a x : Nat) : Int) == (a : Int) && ((mB b x : Nat) : Int) == (b : Int)) = mt a b x) := by
    show _ = _
    rw [Bool.eq_iff_iff]
    simp only [Bool.and_eq_true, beq_iff_eq, Int.natCast_inj]
    exact mt_iff a b x
  have heq := eq81 ((mA a x : Nat) : Int) ((mB b x : Nat) : Int) (a : Int) (b : Int)
  go_enter Tryz.func105, Tryz.ntmps105
  go_wp2_with fail
  have b0 := bel1 w (.cells #[.int .u64 (a : Int), .int .u64 (b : Int)] 107)
  go_region_with (go_at_call 101; refine (with65 a b x _ ha hb).mono ?_; rintro e w1 ⟨rfl, hb1⟩; have c0 : w1.cell? ⟨w.heap.size, 0, none⟩ = some (.int .u64 (a : Int)) := (hb1.cell (p := ⟨w.heap.size, 0, none⟩) (by simp)).trans (by simp); have c1 : w1.cell? ⟨w.heap.size, 1, none⟩ = some (.int .u64 (b : Int)) := (hb1.cell (p := ⟨w.heap.size, 1, none⟩) (by simp)).trans (by simp))
  all_goals
    go_wp2_with fail
    rw [HQ.out]
    go_ret
    exact ⟨rfl, b0.drew.trans (hb1.mono b0.drew.size)⟩

set_option maxHeartbeats 2000000 in
theorem and66 (a b c d : Nat) (w : World) (ha : a < 18446744073709551616) (hb : b < 18446744073709551616) (hc : c < 18446744073709551616) (hd : d < 18446744073709551616) :
    Calls Tryz.prog 104 #[.agg #[.int .u64 a, .int .u64 b], .agg #[.int .u64 c, .int .u64 d]] w fun e w' => e = .returned (.agg #[.int .u64 ((a &&& c : Nat) : Int), .int .u64 ((b &&& d : Nat) : Int)]) ∧ Below w.heap.size w w' := by
  have h1 := bits_and_u64_nat a c ha hc
  have h2 := bits_and_u64_nat b d hb hd
  go_enter Tryz.func104, Tryz.ntmps104
  go_wp2_with fail
  refine wp_loop_rounds 3 ?_
  rw [rounds_succ]
  go_wp2_with fail
  go_region
  all_goals
    go_wp2_with fail
    rw [rounds_succ]
    go_wp2_with fail
    go_region
    all_goals
      go_wp2_with fail
      rw [rounds_succ]
      go_wp2_with fail
      exact bodyPost_ret (v := .agg #[.int .u64 ((a &&& c : Nat) : Int), .int .u64 ((b &&& d : Nat) : Int)]) (by simp [results, Tryz.results104, go_sem]) rfl ⟨rfl, (bel3 _ _ _ _).drew.drew⟩

end Go.Proofs.YtjhmaofjmalglaaGreat
