import Derived.Test.YtkeilejbelblcaaGreatDoorGMoSm
import Derived.Laws.Bits64b
import Derived.Laws.BitsLemmas
import Derived.ChangeKeysEq
import Derived.Test.YtkeilejbelblcaaGreatDoorGSaH5
namespace Go.Proofs.YtkeilejbelblcaaGreatDoor
open Go.RowKit

theorem and_63 (n : Int) : bits .and .i64 n 63 = n % 64 := by
  have h127 : (BitVec.ofInt 64 63).toNat = 2 ^ 6 - 1 := by decide
  have key : (BitVec.ofInt 64 n &&& BitVec.ofInt 64 63).toNat = (n % ((2 ^ 64 : Nat) : Int)).toNat % 2 ^ 6 := by
    rw [BitVec.toNat_and, BitVec.toNat_ofInt, h127, Nat.and_two_pow_sub_one_eq_mod]
  show IntKind.i64.wrap ((BitVec.ofInt 64 n &&& BitVec.ofInt 64 63).toNat : Nat) = n % 64
  rw [key, IntKind.wrap_i64]
  omega
theorem and_1 (n : Int) : bits .and .i64 n 1 = n % 2 := by
  have h127 : (BitVec.ofInt 64 1).toNat = 2 ^ 1 - 1 := by decide
  have key : (BitVec.ofInt 64 n &&& BitVec.ofInt 64 1).toNat = (n % ((2 ^ 64 : Nat) : Int)).toNat % 2 ^ 1 := by
    rw [BitVec.toNat_and, BitVec.toNat_ofInt, h127, Nat.and_two_pow_sub_one_eq_mod]
  show IntKind.i64.wrap ((BitVec.ofInt 64 n &&& BitVec.ofInt 64 1).toNat : Nat) = n % 2
  rw [key, IntKind.wrap_i64]
  omega

/-- which bit a number has -/
def bt (x : Int) : Nat := 2 ^ (x % 64).toNat
theorem bt_lt (x : Int) : bt x < 18446744073709551616 := by
  have h : (x % 64).toNat < 64 := by omega
  have := Nat.pow_lt_pow_right (a := 2) (by decide) h
  simpa [bt] using this
def mA (a : Nat) (x : Int) : Nat := if x / 64 % 2 = 0 then a ||| bt x else a
def mB (b : Nat) (x : Int) : Nat := if x / 64 % 2 = 0 then b else b ||| bt x
/-- whether a number is marked -/
def mt (a b : Nat) (x : Int) : Bool := if x / 64 % 2 = 0 then a.testBit (x % 64).toNat else b.testBit (x % 64).toNat

theorem or_pow {a q : Nat} : a ||| 2 ^ q = a ↔ a.testBit q = true := by
  constructor
  · intro h
    rw [← h]
    simp
  · intro h
    refine Nat.eq_of_testBit_eq fun i => ?_
    rw [Nat.testBit_or, Nat.testBit_two_pow]
    by_cases e : q = i
    · subst e; simp [h]
    · simp [e]
theorem mt_new (a b : Nat) (x : Int) : mt (mA a x) (mB b x) x = true := by
  unfold mt mA mB
  by_cases h : x / 64 % 2 = 0 <;> simp [h, bt]
theorem mt_keep {a b : Nat} {x y : Int} (h : mt a b y = true) : mt (mA a x) (mB b x) y = true := by
  unfold mt mA mB at *
  by_cases h1 : y / 64 % 2 = 0 <;> by_cases h2 : x / 64 % 2 = 0 <;> simp_all
theorem mt_and (a b c d : Nat) (x : Int) : mt (a &&& c) (b &&& d) x = (mt a b x && mt c d x) := by
  unfold mt
  by_cases h : x / 64 % 2 = 0 <;> simp [h]
theorem mt_zero (x : Int) : mt 0 0 x = false := by
  unfold mt
  simp
theorem mt_iff (a b : Nat) (x : Int) : (mA a x = a ∧ mB b x = b) ↔ mt a b x = true := by
  unfold mt mA mB
  by_cases h : x / 64 % 2 = 0
  · simp [h, bt, or_pow]
  · simp [h, bt, or_pow]
theorem mA_lt {a : Nat} (h : a < 18446744073709551616) (x : Int) : mA a x < 18446744073709551616 := by
  unfold mA
  split
  · exact Nat.or_lt_two_pow (n := 64) h (bt_lt x)
  · exact h
theorem mB_lt {b : Nat} (h : b < 18446744073709551616) (x : Int) : mB b x < 18446744073709551616 := by
  unfold mB
  split
  · exact h
  · exact Nat.or_lt_two_pow (n := 64) h (bt_lt x)

theorem shl_bt (x : Int) (k : Int) (hk : k = x % 64) : Op.shift .shl .u64 1 .i64 k = pure (.int .u64 ((bt x : Nat) : Int)) := by
  subst hk
  have h0 : 0 ≤ x % 64 := by omega
  have h1 : x % 64 < 64 := by omega
  have hm : min (x % 64).toNat 64 = (x % 64).toNat := by omega
  have hb := bt_lt x
  have hbb : IntKind.u64.bits = 64 := rfl
  have hcast : ((2 : Int) ^ (x % 64).toNat) = ((bt x : Nat) : Int) := by unfold bt; simp
  simp only [Op.shift, hbb, hm, Int.one_mul, hcast, IntKind.wrap_u64]
  have : ((bt x : Nat) : Int) % 18446744073709551616 = ((bt x : Nat) : Int) := by omega
  simp [this]
  omega

theorem part0 (x y : Value) (w : World) : (part 190 #[x, y] (0 * Tryz.prog.cellsOf 190)).run Tryz.prog w = .ok x w := by kernel_rfl
theorem part1 (x y : Value) (w : World) : (part 190 #[x, y] (1 * Tryz.prog.cellsOf 190)).run Tryz.prog w = .ok y w := by kernel_rfl
theorem info95s : (Tryz.prog.info? 190).isSome = true := by kernel_rfl
theorem eq97 (a b c d : Int) (w : World) : (Op.equalIn 10000 192 (.agg #[.int .u64 a, .int .u64 b]) (.agg #[.int .u64 c, .int .u64 d])).run Tryz.prog w = .ok (a == c && b == d) w := by
  obtain ⟨i, hi⟩ := Option.isSome_iff_exists.1 info95s
  have h := run_equalIn_array w 9999 #[.int .u64 a, .int .u64 b] #[.int .u64 c, .int .u64 d] Tryz.underlying192 hi
  rw [show List.range 2 = [0, 1] from rfl] at h
  have e0 := fun w => run_equalIn_int (P := Tryz.prog) w 9998 190 .u64 .u64 a c Tryz.underlying190
  have e1 := fun w => run_equalIn_int (P := Tryz.prog) w 9998 190 .u64 .u64 b d Tryz.underlying190
  refine h.trans ?_
  simp only [Op.eqItems, Sem.run_bind, part0, Result.andThen_ok]
  rw [e0]
  simp only [Result.andThen_ok]
  cases h1 : (a == c)
  · simp
  · simp only [Bool.not_true, Bool.false_eq_true, if_false, Sem.run_bind, part1, Result.andThen_ok]
    rw [e1]
    cases h2 : (b == d) <;> simp

theorem wrap_bt (x : Int) : IntKind.u64.wrap (2 ^ (x % 64).toNat) = ((bt x : Nat) : Int) := by
  have hb := bt_lt x
  have hcast : ((2 : Int) ^ (x % 64).toNat) = ((bt x : Nat) : Int) := by unfold bt; simp
  rw [hcast, IntKind.wrap_u64]
  omega

set_option maxHeartbeats 2000000 in
theorem with71 (a b : Nat) (x : Int) (w : World) (ha : a < 18446744073709551616) (hb : b < 18446744073709551616) :
    Calls Tryz.prog 141 #[.agg #[.int .u64 a, .int .u64 b], .int .i64 x] w fun e w' => e = .returned (.agg #[.int .u64 ((mA a x : Nat) : Int), .int .u64 ((mB b x : Nat) : Int)]) ∧ Below w.heap.size w w' := by
  have h63 := and_63 x
  have hm0 : (0 : Int) ≤ x % 64 := by omega
  have hlt := bt_lt x
  by_cases hp : x / 64 % 2 = 0
  · have h1 : bits .and .i64 (x / 64) 1 = 0 := by rw [and_1]; exact hp
    have HA : Hid (mA a x = a ||| bt x) := by show _ = _; simp [mA, hp]
    have HB : Hid (mB b x = b) := by show _ = _; simp [mB, hp]
    have HW := wrap_bt x
    have hor : bits .or .u64 (a : Int) ((bt x : Nat) : Int) = ((a ||| bt x : Nat) : Int) := bits_or_u64_nat a (bt x) ha hlt
    have HV : Hid (bits .or .u64 (a : Int) (IntKind.u64.wrap (2 ^ (x % 64).toNat)) = ((mA a x : Nat) : Int)) := by
      show _ = _
      rw [HW, hor, HA.out]
    clear hp HW hor
    go_enter Tryz.func141, Tryz.ntmps141
    go_wp2_with fail
    go_region
    all_goals
      go_wp2_with fail
      rw [HV.out, HB.out]
      exact bodyPost_ret (v := .agg #[.int .u64 ((mA a x : Nat) : Int), .int .u64 (b : Int)]) (by simp [results, Tryz.results141, go_sem]) rfl ⟨rfl, (bel2 _ _ _).drew⟩
  · have h1 : bits .and .i64 (x / 64) 1 = 1 := by rw [and_1]; omega
    have HA : Hid (mA a x = a) := by show _ = _; simp [mA, hp]
    have HB : Hid (mB b x = b ||| bt x) := by show _ = _; simp [mB, hp]
    have HW := wrap_bt x
    have hor : bits .or .u64 (b : Int) ((bt x : Nat) : Int) = ((b ||| bt x : Nat) : Int) := bits_or_u64_nat b (bt x) hb hlt
    have HV : Hid (bits .or .u64 (b : Int) (IntKind.u64.wrap (2 ^ (x % 64).toNat)) = ((mB b x : Nat) : Int)) := by
      show _ = _
      rw [HW, hor, HB.out]
    clear hp HW hor
    go_enter Tryz.func141, Tryz.ntmps141
    go_wp2_with fail
    go_region
    all_goals
      go_wp2_with fail
      rw [HV.out, HA.out]
      exact bodyPost_ret (v := .agg #[.int .u64 (a : Int), .int .u64 ((mB b x : Nat) : Int)]) (by simp [results, Tryz.results141, go_sem]) rfl ⟨rfl, (bel2 _ _ _).drew⟩

set_option maxHeartbeats 2000000 in
theorem has61 (a b : Nat) (x : Int) (w : World) (ha : a < 18446744073709551616) (hb : b < 18446744073709551616) :
    Calls Tryz.prog 129 #[.agg #[.int .u64 a, .int .u64 b], .int .i64 x] w fun e w' => e = .returned (.bool (mt a b x)) ∧ Below w.heap.size w w' := by
  have HQ : Hid ((((mA a x : Nat) : Int) == (a : Int) && ((mB b x : Nat) : Int) == (b : Int)) = mt a b x) := by
    show _ = _
    rw [Bool.eq_iff_iff]
    simp only [Bool.and_eq_true, beq_iff_eq, Int.natCast_inj]
    exact mt_iff a b x
  have heq := eq97 ((mA a x : Nat) : Int) ((mB b x : Nat) : Int) (a : Int) (b : Int)
  go_enter Tryz.func129, Tryz.ntmps129
  go_wp2_with fail
  have b0 := bel1 w (.cells #[.int .u64 (a : Int), .int .u64 (b : Int)] 192)
  go_region_with (go_at_call 141; refine (with71 a b x _ ha hb).mono ?_; rintro e w1 ⟨rfl, hb1⟩; have c0 : w1.cell? ⟨w.heap.size, 0, none⟩ = some (.int .u64 (a : Int)) := (hb1.cell (p := ⟨w.heap.size, 0, none⟩) (by simp)).trans (by simp); have c1 : w1.cell? ⟨w.heap.size, 1, none⟩ = some (.int .u64 (b : Int)) := (hb1.cell (p := ⟨w.heap.size, 1, none⟩) (by simp)).trans (by simp))
  all_goals
    go_wp2_with fail
    rw [HQ.out]
    go_ret
    exact ⟨rfl, b0.drew.trans (hb1.mono b0.drew.size)⟩

set_option maxHeartbeats 2000000 in
theorem and59 (a b c d : Nat) (w : World) (ha : a < 18446744073709551616) (hb : b < 18446744073709551616) (hc : c < 18446744073709551616) (hd : d < 18446744073709551616) :
    Calls Tryz.prog 127 #[.agg #[.int .u64 a, .int .u64 b], .agg #[.int .u64 c, .int .u64 d]] w fun e w' => e = .returned (.agg #[.int .u64 ((a &&& c : Nat) : Int), .int .u64 ((b &&& d : Nat) : Int)]) ∧ Below w.heap.size w w' := by
  have h1 := bits_and_u64_nat a c ha hc
  have h2 := bits_and_u64_nat b d hb hd
  go_enter Tryz.func127, Tryz.ntmps127
  go_wp2_with fail
  refine wp_loop_rounds 3 ?_
  rw [rounds_succ]
  go_wp2_with fail
  go_region
  all_goals
    go_wp2_with fail
    rw [rounds_succ]
    go_wp2_with fail
    go_region
    all_goals
      go_wp2_with fail
      rw [rounds_succ]
      go_wp2_with fail
      exact bodyPost_ret (v := .agg #[.int .u64 ((a &&& c : Nat) : Int), .int .u64 ((b &&& d : Nat) : Int)]) (by simp [results, Tryz.results127, go_sem]) rfl ⟨rfl, (bel3 _ _ _ _).drew.drew⟩

end Go.Proofs.YtkeilejbelblcaaGreatDoor

namespace Go.Proofs.YtkeilejbelblcaaGreatDoor
open Go.RowKit

/-- the marks of a list -/
def mkA (S : Nat → Int) : Nat → Nat
  | 0 => 0
  | n + 1 => mA (mkA S n) (S n)
def mkB (S : Nat → Int) : Nat → Nat
  | 0 => 0
  | n + 1 => mB (mkB S n) (S n)
theorem mkA_lt (S : Nat → Int) : ∀ n, mkA S n < 18446744073709551616
  | 0 => by simp [mkA]
  | n + 1 => mA_lt (mkA_lt S n) _
theorem mkB_lt (S : Nat → Int) : ∀ n, mkB S n < 18446744073709551616
  | 0 => by simp [mkB]
  | n + 1 => mB_lt (mkB_lt S n) _
theorem mt_other {a b : Nat} {x y : Int} (hx0 : 0 ≤ x) (hx : x < 64) (hy0 : 0 ≤ y) (hy : y < 64) (h : x ≠ y) : mt (mA a x) (mB b x) y = mt a b y := by
  have e1 : x / 64 % 2 = 0 := by omega
  have e2 : y / 64 % 2 = 0 := by omega
  have e3 : x % 64 = x := by omega
  have e4 : y % 64 = y := by omega
  simp only [mt, mA, e1, e2, if_true, bt, e3, e4, Nat.testBit_or, Nat.testBit_two_pow]
  have : ¬ x.toNat = y.toNat := by omega
  simp [this]
theorem mk_has {S : Nat → Int} {x : Int} (hx0 : 0 ≤ x) (hx : x < 64) : ∀ {n : Nat}, (∀ i, i < n → 0 ≤ S i ∧ S i < 64) → mt (mkA S n) (mkB S n) x = anyB (fun i => decide (S i = x)) n
  | 0, _ => by rw [mkA, mkB, mt_zero]; rfl
  | n + 1, h => by
    have ih := mk_has hx0 hx (n := n) fun i hi => h i (by omega)
    obtain ⟨h0, h1⟩ := h n (by omega)
    by_cases e : S n = x
    · rw [anyB_yes (k := n) (by omega) (by simp [e]), mkA, mkB, ← e]
      exact mt_new _ _ _
    · rw [mkA, mkB, mt_other h0 h1 hx0 hx e, ih]
      simp [anyB, allB, e]
theorem el_low {S : Nat → Int} {m : Int} {i : Nat} (h : elF S m i = true) (hm : m ≤ 60) : 0 ≤ S i ∧ S i < 64 := by
  simp only [elF, inB, Bool.and_eq_true, decide_eq_true_eq] at h
  omega
theorem elF_of {S : Nat → Int} {m : Int} {q : Nat} (hm : m ≤ 60) (hq : ∀ i, i < q → elF S m i = true) (hb : inB (S q) 0 (m - 1) = true) : elF S m q = !mt (mkA S q) (mkB S q) (S q) := by
  have hr : 0 ≤ S q ∧ S q ≤ m - 1 := by simpa [inB] using hb
  rw [mk_has hr.1 (by omega) fun i hi => el_low (hq i hi) hm, anyB, elF, hb, Bool.true_and, Bool.not_not]
  exact allB_congr fun i _ => by simp

/-- the marks of a right list, none of one that is not -/
def secA (S : Nat → Int) (n : Nat) (m : Int) : Nat := if listF S n m then mkA S n else 0
def secB (S : Nat → Int) (n : Nat) (m : Int) : Nat := if listF S n m then mkB S n else 0
set_option maxRecDepth 100000 in
set_option maxHeartbeats 4000000 in
theorem sec58 (p : Pl) (wa ya ba : Option Addr) (wc yc bc : Nat) (a : Option Addr) (n cap : Nat) (S : Nat → Int) (w : World) (hn : n ≤ 1048576) (h1 : 1 ≤ p.sec) (h2 : p.sec ≤ 60) (hS : VsAt 1 0 w a n (oneF S)) :
    Calls Tryz.prog 126 #[.agg #[.int .i64 p.sec, .slice wa p.nw wc, .slice ya p.ny yc, .slice ba p.nb bc, .int .i64 p.hold], .slice a n cap] w fun e w' => e = .returned (.tuple #[.agg #[.int .u64 ((secA S n p.sec : Nat) : Int), .int .u64 ((secB S n p.sec : Nat) : Int)], .bool (listF S n p.sec)]) ∧ Below w.heap.size w w' := by
  have HS : Hid (VsAt 1 0 w a n (oneF S)) := hS
  clear hS
  go_enter Tryz.func126, Tryz.ntmps126
  by_cases h30 : (30 : Int) < (n : Int)
  · have d30 : decide ((30 : Int) < (n : Int)) = true := by simpa using h30
    have hl : listF S n p.sec = false := by simp [listF]; omega
    go_wp2_with fail
    refine bodyPost_ret (v := .tuple #[.agg #[.int .u64 0, .int .u64 0], .bool false]) (by simp [results, Tryz.results126, go_sem]) rfl ⟨by simp [secA, secB, hl], bel2 _ _ _⟩
  have d30 : decide ((30 : Int) < (n : Int)) = false := by simpa using h30
  go_wp2_with fail
  go_loopw [14] (fun i wr => ∃ q : Nat, q ≤ n ∧ i = .int .i64 q ∧ Hid (∀ i, i < q → elF S p.sec i = true) ∧ Hid (Below w.heap.size w wr ∧ Box wr w.heap.size 37 #[.int .i64 p.sec, .slice wa p.nw wc, .slice ya p.ny yc, .slice ba p.nb bc, .int .i64 p.hold] ∧ Box wr (w.heap.size + 1) 192 #[.int .u64 ((mkA S q : Nat) : Int), .int .u64 ((mkB S q : Nat) : Int)])) (fun i _ => n - (intOf i).toNat)
  case atStart => exact ⟨0, Nat.zero_le _, rfl, fun i hi => absurd hi (Nat.not_lt_zero _), bel2 _ _ _, (Box.new w 37 _).alloc _, by have := Box.new (w.alloc (.cells #[.int .i64 p.sec, .slice wa p.nw wc, .slice ya p.ny yc, .slice ba p.nb bc, .int .i64 p.hold] 37)) 192 #[.int .u64 0, .int .u64 0]; simpa [mkA, mkB] using this⟩
  case round =>
    obtain ⟨q, hq, rfl, HQ, HB⟩ := hrel
    have z1 : w.heap.size < wr.heap.size := HB.out.2.1.lt
    have z2 : w.heap.size + 1 < wr.heap.size := HB.out.2.2.lt
    have m0 : wr.cell? ⟨w.heap.size + 1, 0, none⟩ = some (.int .u64 ((mkA S q : Nat) : Int)) := HB.out.2.2.cell 0
    have m1 : wr.cell? ⟨w.heap.size + 1, 1, none⟩ = some (.int .u64 ((mkB S q : Nat) : Int)) := HB.out.2.2.cell 1
    have g0 := HB.out.2.2.free 0
    have g1 := HB.out.2.2.free 1
    by_cases hlt : q < n
    · obtain ⟨b, off, rfl, _, hb, hc⟩ := (HS.out.mono (Nat.le_refl _) HB.out.1 (Nat.le_refl _)) (by omega)
      have c0 : wr.cell? ⟨b, off + q, none⟩ = some (.int .i64 (S q)) := by have := hc q hlt 0 (by omega); rwa [Nat.mul_one] at this
      have x0 : wr.cell? ⟨w.heap.size, 0, none⟩ = some (.int .i64 p.sec) := HB.out.2.1.cell 0
      clear hc hb
      have hq0 : (0 : Int) ≤ (q : Int) := by omega
      have hqn : (q : Int) < (n : Int) := by omega
      go_wp2_with fail
      refine (within30 (S q) 0 (p.sec - 1) _).mono ?_
      rintro e wx ⟨he, hwx⟩
      have hwx := hwx.symm
      subst hwx
      have hle : w.heap.size ≤ w.heap.size + 1 := by omega
      cases f1 : inB (S q) 0 (p.sec - 1) with
      | false =>
        rw [f1] at he
        subst he
        have hl : listF S n p.sec = false := by rw [listF, allB_no hlt (by simp [elF, f1])]; rfl
        go_wp2_with fail
        refine bodyPost_ret (v := .tuple #[.agg #[.int .u64 0, .int .u64 0], .bool false]) (by simp [results, Tryz.results126, go_sem, m0, m1]) rfl ⟨by simp [secA, secB, hl], (HB.out.1.setCell hle _).setCell hle _⟩
      | true =>
        rw [f1] at he
        subst he
        have hel := elF_of h2 HQ.out f1
        go_wp2_with fail
        refine (has61 (mkA S q) (mkB S q) (S q) _ (mkA_lt _ _) (mkB_lt _ _)).mono ?_
        rintro e w1 ⟨he, hb1⟩
        have HB1 : Hid (Below w.heap.size w w1 ∧ Box w1 w.heap.size 37 _ ∧ Box w1 (w.heap.size + 1) 192 #[.int .u64 ((mkA S q : Nat) : Int), .int .u64 ((mkB S q : Nat) : Int)]) := ⟨HB.out.1.trans (hb1.mono HB.out.1.size), HB.out.2.1.mono hb1 (Nat.le_refl _), HB.out.2.2.mono hb1 (Nat.le_refl _)⟩
        clear m0 m1 g0 g1 c0 x0 z1 z2 hb1 HB
        have m0 : w1.cell? ⟨w.heap.size + 1, 0, none⟩ = some (.int .u64 ((mkA S q : Nat) : Int)) := HB1.out.2.2.cell 0
        have m1 : w1.cell? ⟨w.heap.size + 1, 1, none⟩ = some (.int .u64 ((mkB S q : Nat) : Int)) := HB1.out.2.2.cell 1
        have g0 := HB1.out.2.2.free 0
        have g1 := HB1.out.2.2.free 1
        cases f2 : mt (mkA S q) (mkB S q) (S q) with
        | true =>
          rw [f2] at he hel
          subst he
          have hl : listF S n p.sec = false := by rw [listF, allB_no hlt hel]; rfl
          go_wp2_with fail
          refine bodyPost_ret (v := .tuple #[.agg #[.int .u64 0, .int .u64 0], .bool false]) (by simp [results, Tryz.results126, go_sem, m0, m1]) rfl ⟨by simp [secA, secB, hl], (HB1.out.1.setCell hle _).setCell hle _⟩
        | false =>
          rw [f2] at he hel
          subst he
          have HQ2 : Hid (∀ i, i < q + 1 → elF S p.sec i = true) := fun i hi => by
            by_cases e : i = q
            · subst e
              exact hel
            · exact HQ.out i (by omega)
          clear hel
          go_wp2_with fail
          refine (with71 (mkA S q) (mkB S q) (S q) _ (mkA_lt _ _) (mkB_lt _ _)).mono ?_
          rintro e w2 ⟨rfl, hb2⟩
          have HB2 : Hid (Below w.heap.size w w2 ∧ Box w2 w.heap.size 37 _ ∧ Box w2 (w.heap.size + 1) 192 #[.int .u64 ((mkA S q : Nat) : Int), .int .u64 ((mkB S q : Nat) : Int)]) := ⟨HB1.out.1.trans (hb2.mono HB1.out.1.size), HB1.out.2.1.mono hb2 (Nat.le_refl _), HB1.out.2.2.mono hb2 (Nat.le_refl _)⟩
          clear m0 m1 g0 g1 HB1 hb2
          have m0 : w2.cell? ⟨w.heap.size + 1, 0, none⟩ = some (.int .u64 ((mkA S q : Nat) : Int)) := HB2.out.2.2.cell 0
          have m1 : w2.cell? ⟨w.heap.size + 1, 1, none⟩ = some (.int .u64 ((mkB S q : Nat) : Int)) := HB2.out.2.2.cell 1
          have g0 := HB2.out.2.2.free 0
          have g1 := HB2.out.2.2.free 1
          have HB3 : Hid (Below w.heap.size w ((w2.setCell ⟨w.heap.size + 1, 0, none⟩ (.int .u64 ((mA (mkA S q) (S q) : Nat) : Int))).setCell ⟨w.heap.size + 1, 1, none⟩ (.int .u64 ((mB (mkB S q) (S q) : Nat) : Int))) ∧ Box ((w2.setCell ⟨w.heap.size + 1, 0, none⟩ (.int .u64 ((mA (mkA S q) (S q) : Nat) : Int))).setCell ⟨w.heap.size + 1, 1, none⟩ (.int .u64 ((mB (mkB S q) (S q) : Nat) : Int))) w.heap.size 37 _ ∧ Box ((w2.setCell ⟨w.heap.size + 1, 0, none⟩ (.int .u64 ((mA (mkA S q) (S q) : Nat) : Int))).setCell ⟨w.heap.size + 1, 1, none⟩ (.int .u64 ((mB (mkB S q) (S q) : Nat) : Int))) (w.heap.size + 1) 192 #[.int .u64 ((mkA S (q + 1) : Nat) : Int), .int .u64 ((mkB S (q + 1) : Nat) : Int)]) :=
            ⟨(HB2.out.1.setCell hle _).setCell hle _, (HB2.out.2.1.other (p := ⟨w.heap.size + 1, 0, none⟩) (by show w.heap.size ≠ w.heap.size + 1; omega) _).other (p := ⟨w.heap.size + 1, 1, none⟩) (by show w.heap.size ≠ w.heap.size + 1; omega) _, by have := (HB2.out.2.2.set 0 (.int .u64 ((mA (mkA S q) (S q) : Nat) : Int))).set 1 (.int .u64 ((mB (mkB S q) (S q) : Nat) : Int)); simpa [mkA, mkB] using this⟩
          go_wp2_with fail
          go_roundw
          case rel => exact ⟨q + 1, by omega, by go_num, HQ2, HB3⟩
          case measure => simp [intOf]; omega
    · obtain rfl : q = n := by omega
      have hl : listF S q p.sec = true := by rw [listF, allB_iff.2 HQ.out]; simp; omega
      have hle : w.heap.size ≤ w.heap.size + 1 := by omega
      go_wp2_with fail
      refine bodyPost_ret (v := .tuple #[.agg #[.int .u64 ((mkA S q : Nat) : Int), .int .u64 ((mkB S q : Nat) : Int)], .bool true]) (by simp [results, Tryz.results126, go_sem, m0, m1]) rfl ⟨by simp [secA, secB, hl], (HB.out.1.setCell hle _).setCell hle _⟩

end Go.Proofs.YtkeilejbelblcaaGreatDoor
