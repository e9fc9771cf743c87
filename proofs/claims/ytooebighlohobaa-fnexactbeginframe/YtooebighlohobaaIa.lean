import Derived.Test.YtooebighlohobaaBt
import Derived.Test.YtooebighlohobaaSa
namespace Go.Proofs.Ytooebighlohobaa
open Go.RowKit

/-- the marks of a list -/
def mkA (S : Nat → Int) : Nat → Nat
  | 0 => 0
  | n + 1 => mA (mkA S n) (S n)
def mkB (S : Nat → Int) : Nat → Nat
  | 0 => 0
  | n + 1 => mB (mkB S n) (S n)
theorem mkA_lt (S : Nat → Int) : ∀ n, mkA S n < 18446744073709551616
  | 0 => by simp [mkA]
  | n + 1 => mA_lt (mkA_lt S n) _
theorem mkB_lt (S : Nat → Int) : ∀ n, mkB S n < 18446744073709551616
  | 0 => by simp [mkB]
  | n + 1 => mB_lt (mkB_lt S n) _
theorem mt_other {a b : Nat} {x y : Int} (hx0 : 0 ≤ x) (hx : x < 64) (hy0 : 0 ≤ y) (hy : y < 64) (h : x ≠ y) : mt (mA a x) (mB b x) y = mt a b y := by
  have e1 : x / 64 % 2 = 0 := by omega
  have e2 : y / 64 % 2 = 0 := by omega
  have e3 : x % 64 = x := by omega
  have e4 : y % 64 = y := by omega
  simp only [mt, mA, e1, e2, if_true, bt, e3, e4, Nat.testBit_or, Nat.testBit_two_pow]
  have : ¬ x.toNat = y.toNat := by omega
  simp [this]
theorem mk_has {S : Nat → Int} {x : Int} (hx0 : 0 ≤ x) (hx : x < 64) : ∀ {n : Nat}, (∀ i, i < n → 0 ≤ S i ∧ S i < 64) → mt (mkA S n) (mkB S n) x = anyB (fun i => decide (S i = x)) n
  | 0, _ => by rw [mkA, mkB, mt_zero]; rfl
  | n + 1, h => by
    have ih := mk_has hx0 hx (n := n) fun i hi => h i (by omega)
    obtain ⟨h0, h1⟩ := h n (by omega)
    by_cases e : S n = x
    · rw [anyB_yes (k := n) (by omega) (by simp [e]), mkA, mkB, ← e]
      exact mt_new _ _ _
    · rw [mkA, mkB, mt_other h0 h1 hx0 hx e, ih]
      simp [anyB, allB, e]
theorem el_low {S : Nat → Int} {m : Int} {i : Nat} (h : elF S m i = true) (hm : m ≤ 60) : 0 ≤ S i ∧ S i < 64 := by
  simp only [elF, inB, Bool.and_eq_true, decide_eq_true_eq] at h
  omega
theorem elF_of {S : Nat → Int} {m : Int} {q : Nat} (hm : m ≤ 60) (hq : ∀ i, i < q → elF S m i = true) (hb : inB (S q) 0 (m - 1) = true) : elF S m q = !mt (mkA S q) (mkB S q) (S q) := by
  have hr : 0 ≤ S q ∧ S q ≤ m - 1 := by simpa [inB] using hb
  rw [mk_has hr.1 (by omega) fun i hi => el_low (hq i hi) hm, anyB, elF, hb, Bool.true_and, Bool.not_not]
  exact allB_congr fun i _ => by simp

/-- the marks of a right list, none of one that is not -/
def secA (S : Nat → Int) (n : Nat) (m : Int) : Nat := if listF S n m then mkA S n else 0
def secB (S : Nat → Int) (n : Nat) (m : Int) : Nat := if listF S n m then mkB S n else 0
set_option maxRecDepth 100000 in
set_option maxHeartbeats 4000000 in
theorem sec58 (p : Pl) (wa ya ba : Option Addr) (wc yc bc : Nat) (a : Option Addr) (n cap : Nat) (S : Nat → Int) (w : World) (hn : n ≤ 1048576) (h1 : 1 ≤ p.sec) (h2 : p.sec ≤ 60) (hS : VsAt 1 0 w a n (oneF S)) :
    Calls Try.prog 58 #[.agg #[.int .i64 p.sec, .slice wa p.nw wc, .slice ya p.ny yc, .slice ba p.nb bc, .int .i64 p.hold], .slice a n cap] w fun e w' => e = .returned (.tuple #[.agg #[.int .u64 ((secA S n p.sec : Nat) : Int), .int .u64 ((secB S n p.sec : Nat) : Int)], .bool (listF S n p.sec)]) ∧ Below w.heap.size w w' := by
  have HS : Hid (VsAt 1 0 w a n (oneF S)) := hS
  clear hS
  go_enter Try.func58, Try.ntmps58
  by_cases h30 : (30 : Int) < (n : Int)
  · have d30 : decide ((30 : Int) < (n : Int)) = true := by simpa using h30
    have hl : listF S n p.sec = false := by simp [listF]; omega
    go_wp2_with fail
    refine bodyPost_ret (v := .tuple #[.agg #[.int .u64 0, .int .u64 0], .bool false]) (by simp [results, Try.results58, go_sem]) rfl ⟨by simp [secA, secB, hl], bel2 _ _ _⟩
  have d30 : decide ((30 : Int) < (n : Int)) = false := by simpa using h30
  go_wp2_with fail
  go_loopw [14] (fun i wr => ∃ q : Nat, q ≤ n ∧ i = .int .i64 q ∧ Hid (∀ i, i < q → elF S p.sec i = true) ∧ Hid (Below w.heap.size w wr ∧ Box wr w.heap.size 33 #[.int .i64 p.sec, .slice wa p.nw wc, .slice ya p.ny yc, .slice ba p.nb bc, .int .i64 p.hold] ∧ Box wr (w.heap.size + 1) 97 #[.int .u64 ((mkA S q : Nat) : Int), .int .u64 ((mkB S q : Nat) : Int)])) (fun i _ => n - (intOf i).toNat)
  case atStart => exact ⟨0, Nat.zero_le _, rfl, fun i hi => absurd hi (Nat.not_lt_zero _), bel2 _ _ _, (Box.new w 33 _).alloc _, by have := Box.new (w.alloc (.cells #[.int .i64 p.sec, .slice wa p.nw wc, .slice ya p.ny yc, .slice ba p.nb bc, .int .i64 p.hold] 33)) 97 #[.int .u64 0, .int .u64 0]; simpa [mkA, mkB] using this⟩
  case round =>
    obtain ⟨q, hq, rfl, HQ, HB⟩ := hrel
    have z1 : w.heap.size < wr.heap.size := HB.out.2.1.lt
    have z2 : w.heap.size + 1 < wr.heap.size := HB.out.2.2.lt
    have m0 : wr.cell? ⟨w.heap.size + 1, 0, none⟩ = some (.int .u64 ((mkA S q : Nat) : Int)) := HB.out.2.2.cell 0
    have m1 : wr.cell? ⟨w.heap.size + 1, 1, none⟩ = some (.int .u64 ((mkB S q : Nat) : Int)) := HB.out.2.2.cell 1
    have g0 := HB.out.2.2.free 0
    have g1 := HB.out.2.2.free 1
    by_cases hlt : q < n
    · obtain ⟨b, off, rfl, _, hb, hc⟩ := (HS.out.mono (Nat.le_refl _) HB.out.1 (Nat.le_refl _)) (by omega)
      have c0 : wr.cell? ⟨b, off + q, none⟩ = some (.int .i64 (S q)) := by have := hc q hlt 0 (by omega); rwa [Nat.mul_one] at this
      have x0 : wr.cell? ⟨w.heap.size, 0, none⟩ = some (.int .i64 p.sec) := HB.out.2.1.cell 0
      clear hc hb
      have hq0 : (0 : Int) ≤ (q : Int) := by omega
      have hqn : (q : Int) < (n : Int) := by omega
      go_wp2_with fail
      refine (within30 (S q) 0 (p.sec - 1) _).mono ?_
      rintro e wx ⟨he, hwx⟩
      have hwx := hwx.symm
      subst hwx
      have hle : w.heap.size ≤ w.heap.size + 1 := by omega
      cases f1 : inB (S q) 0 (p.sec - 1) with
      | false =>
        rw [f1] at he
        subst he
        have hl : listF S n p.sec = false := by rw [listF, allB_no hlt (by simp [elF, f1])]; rfl
        go_wp2_with fail
        refine bodyPost_ret (v := .tuple #[.agg #[.int .u64 0, .int .u64 0], .bool false]) (by simp [results, Try.results58, go_sem, m0, m1]) rfl ⟨by simp [secA, secB, hl], (HB.out.1.setCell hle _).setCell hle _⟩
      | true =>
        rw [f1] at he
        subst he
        have hel := elF_of h2 HQ.out f1
        go_wp2_with fail
        refine (has61 (mkA S q) (mkB S q) (S q) _ (mkA_lt _ _) (mkB_lt _ _)).mono ?_
        rintro e w1 ⟨he, hb1⟩
        have HB1 : Hid (Below w.heap.size w w1 ∧ Box w1 w.heap.size 33 _ ∧ Box w1 (w.heap.size + 1) 97 #[.int .u64 ((mkA S q : Nat) : Int), .int .u64 ((mkB S q : Nat) : Int)]) := ⟨HB.out.1.trans (hb1.mono HB.out.1.size), HB.out.2.1.mono hb1 (Nat.le_refl _), HB.out.2.2.mono hb1 (Nat.le_refl _)⟩
        clear m0 m1 g0 g1 c0 x0 z1 z2 hb1 HB
        have m0 : w1.cell? ⟨w.heap.size + 1, 0, none⟩ = some (.int .u64 ((mkA S q : Nat) : Int)) := HB1.out.2.2.cell 0
        have m1 : w1.cell? ⟨w.heap.size + 1, 1, none⟩ = some (.int .u64 ((mkB S q : Nat) : Int)) := HB1.out.2.2.cell 1
        have g0 := HB1.out.2.2.free 0
        have g1 := HB1.out.2.2.free 1
        cases f2 : mt (mkA S q) (mkB S q) (S q) with
        | true =>
          rw [f2] at he hel
          subst he
          have hl : listF S n p.sec = false := by rw [listF, allB_no hlt hel]; rfl
          go_wp2_with fail
          refine bodyPost_ret (v := .tuple #[.agg #[.int .u64 0, .int .u64 0], .bool false]) (by simp [results, Try.results58, go_sem, m0, m1]) rfl ⟨by simp [secA, secB, hl], (HB1.out.1.setCell hle _).setCell hle _⟩
        | false =>
          rw [f2] at he hel
          subst he
          have HQ2 : Hid (∀ i, i < q + 1 → elF S p.sec i = true) := fun i hi => by
            by_cases e : i = q
            · subst e
              exact hel
            · exact HQ.out i (by omega)
          clear hel
          go_wp2_with fail
          refine (with71 (mkA S q) (mkB S q) (S q) _ (mkA_lt _ _) (mkB_lt _ _)).mono ?_
          rintro e w2 ⟨rfl, hb2⟩
          have HB2 : Hid (Below w.heap.size w w2 ∧ Box w2 w.heap.size 33 _ ∧ Box w2 (w.heap.size + 1) 97 #[.int .u64 ((mkA S q : Nat) : Int), .int .u64 ((mkB S q : Nat) : Int)]) := ⟨HB1.out.1.trans (hb2.mono HB1.out.1.size), HB1.out.2.1.mono hb2 (Nat.le_refl _), HB1.out.2.2.mono hb2 (Nat.le_refl _)⟩
          clear m0 m1 g0 g1 HB1 hb2
          have m0 : w2.cell? ⟨w.heap.size + 1, 0, none⟩ = some (.int .u64 ((mkA S q : Nat) : Int)) := HB2.out.2.2.cell 0
          have m1 : w2.cell? ⟨w.heap.size + 1, 1, none⟩ = some (.int .u64 ((mkB S q : Nat) : Int)) := HB2.out.2.2.cell 1
          have g0 := HB2.out.2.2.free 0
          have g1 := HB2.out.2.2.free 1
          have HB3 : Hid (Below w.heap.size w ((w2.setCell ⟨w.heap.size + 1, 0, none⟩ (.int .u64 ((mA (mkA S q) (S q) : Nat) : Int))).setCell ⟨w.heap.size + 1, 1, none⟩ (.int .u64 ((mB (mkB S q) (S q) : Nat) : Int))) ∧ Box ((w2.setCell ⟨w.heap.size + 1, 0, none⟩ (.int .u64 ((mA (mkA S q) (S q) : Nat) : Int))).setCell ⟨w.heap.size + 1, 1, none⟩ (.int .u64 ((mB (mkB S q) (S q) : Nat) : Int))) w.heap.size 33 _ ∧ Box ((w2.setCell ⟨w.heap.size + 1, 0, none⟩ (.int .u64 ((mA (mkA S q) (S q) : Nat) : Int))).setCell ⟨w.heap.size + 1, 1, none⟩ (.int .u64 ((mB (mkB S q) (S q) : Nat) : Int))) (w.heap.size + 1) 97 #[.int .u64 ((mkA S (q + 1) : Nat) : Int), .int .u64 ((mkB S (q + 1) : Nat) : Int)]) :=
            ⟨(HB2.out.1.setCell hle _).setCell hle _, (HB2.out.2.1.other (p := ⟨w.heap.size + 1, 0, none⟩) (by show w.heap.size ≠ w.heap.size + 1; omega) _).other (p := ⟨w.heap.size + 1, 1, none⟩) (by show w.heap.size ≠ w.heap.size + 1; omega) _, by have := (HB2.out.2.2.set 0 (.int .u64 ((mA (mkA S q) (S q) : Nat) : Int))).set 1 (.int .u64 ((mB (mkB S q) (S q) : Nat) : Int)); simpa [mkA, mkB] using this⟩
          go_wp2_with fail
          go_roundw
          case rel => exact ⟨q + 1, by omega, by go_num, HQ2, HB3⟩
          case measure => simp [intOf]; omega
    · obtain rfl : q = n := by omega
      have hl : listF S q p.sec = true := by rw [listF, allB_iff.2 HQ.out]; simp; omega
      have hle : w.heap.size ≤ w.heap.size + 1 := by omega
      go_wp2_with fail
      refine bodyPost_ret (v := .tuple #[.agg #[.int .u64 ((mkA S q : Nat) : Int), .int .u64 ((mkB S q : Nat) : Int)], .bool true]) (by simp [results, Try.results58, go_sem, m0, m1]) rfl ⟨by simp [secA, secB, hl], (HB.out.1.setCell hle _).setCell hle _⟩

end Go.Proofs.Ytooebighlohobaa
