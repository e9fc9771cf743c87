import Derived.Test.YtooebighlohobaaIf
namespace Go.Proofs.Ytooebighlohobaa
open Go.RowKit

/-- the event is one of the plan's -/
def evF (p : Pl) (op o lie : Int) : Bool :=
  if op = 1 ∨ op = 2 then inB o 0 ((p.ny : Int) - 1) && decide (lie = 0)
  else if op = 3 ∨ op = 4 then inB o 0 (p.sec - 1) && decide (lie = 0)
  else if op = 5 then inB o 0 ((p.nw : Int) - 1) && inB lie 0 2
  else if op = 6 then inB o 0 ((p.nw : Int) - 1) && inB lie 1 2
  else if op = 7 then decide (o = 0) && decide (lie = 0)
  else false

set_option maxHeartbeats 400000 in
theorem place67 (a : Option Addr) (n cap : Nat) (x : Int) (w : World) (hn : n ≤ 1048576) :
    Calls Try.prog 67 #[.slice a n cap, .int .i64 x] w fun e w' => e = .returned (.bool (inB x 0 ((n : Int) - 1))) ∧ w' = w := by
  go_enter Try.func67, Try.ntmps67
  go_wp2_with fail
  refine (within30 x 0 ((n : Int) - 1) _).mono ?_
  rintro e w1 ⟨rfl, hw⟩
  have hw := hw.symm
  subst hw
  go_wp2_with fail
  go_ret
  exact ⟨rfl, rfl⟩

set_option maxHeartbeats 4000000 in
theorem ev50 (p : Pl) (wa ya ba : Option Addr) (wc yc bc : Nat) (op o lie : Int) (w : World) (h1 : 1 ≤ p.sec) (h2 : p.sec ≤ 60) (hw : p.nw ≤ 40) (hy : p.ny ≤ 100) :
    Calls Try.prog 50 #[.agg #[.int .i64 p.sec, .slice wa p.nw wc, .slice ya p.ny yc, .slice ba p.nb bc, .int .i64 p.hold], .agg #[.int .i64 op, .int .i64 o, .int .i64 lie]] w fun e w' => e = .returned (.bool (evF p op o lie)) ∧ Below w.heap.size w w' := by
  by_cases e1 : op = 1
  · subst e1
    go_enter Try.func50, Try.ntmps50
    go_wp2_with fail
    refine (in24 o 0 ((p.ny : Int) - 1) _).mono ?_
    rintro e wx ⟨he, hwx⟩
    have hwx := hwx.symm
    subst hwx
    cases f1 : inB o 0 ((p.ny : Int) - 1) with
    | false =>
      rw [f1] at he
      subst he
      go_wp2_with fail
      go_ret
      exact ⟨by simp [evF, f1], bel2 _ _ _⟩
    | true =>
      rw [f1] at he
      subst he
      by_cases hl : lie = 0
      · subst hl
        go_wp2_with fail
        go_ret
        exact ⟨by simp [evF, f1], bel2 _ _ _⟩
      · go_wp2_with fail
        go_ret
        exact ⟨by simp [evF, f1, hl], bel2 _ _ _⟩
  by_cases e2 : op = 2
  · subst e2
    go_enter Try.func50, Try.ntmps50
    go_wp2_with fail
    refine (in24 o 0 ((p.ny : Int) - 1) _).mono ?_
    rintro e wx ⟨he, hwx⟩
    have hwx := hwx.symm
    subst hwx
    cases f1 : inB o 0 ((p.ny : Int) - 1) with
    | false =>
      rw [f1] at he
      subst he
      go_wp2_with fail
      go_ret
      exact ⟨by simp [evF, f1], bel2 _ _ _⟩
    | true =>
      rw [f1] at he
      subst he
      by_cases hl : lie = 0
      · subst hl
        go_wp2_with fail
        go_ret
        exact ⟨by simp [evF, f1], bel2 _ _ _⟩
      · go_wp2_with fail
        go_ret
        exact ⟨by simp [evF, f1, hl], bel2 _ _ _⟩
  by_cases e3 : op = 3
  · subst e3
    go_enter Try.func50, Try.ntmps50
    go_wp2_with fail
    refine (in24 o 0 (p.sec - 1) _).mono ?_
    rintro e wx ⟨he, hwx⟩
    have hwx := hwx.symm
    subst hwx
    cases f1 : inB o 0 (p.sec - 1) with
    | false =>
      rw [f1] at he
      subst he
      go_wp2_with fail
      go_ret
      exact ⟨by simp [evF, f1], bel2 _ _ _⟩
    | true =>
      rw [f1] at he
      subst he
      by_cases hl : lie = 0
      · subst hl
        go_wp2_with fail
        go_ret
        exact ⟨by simp [evF, f1], bel2 _ _ _⟩
      · go_wp2_with fail
        go_ret
        exact ⟨by simp [evF, f1, hl], bel2 _ _ _⟩
  by_cases e4 : op = 4
  · subst e4
    go_enter Try.func50, Try.ntmps50
    go_wp2_with fail
    refine (in24 o 0 (p.sec - 1) _).mono ?_
    rintro e wx ⟨he, hwx⟩
    have hwx := hwx.symm
    subst hwx
    cases f1 : inB o 0 (p.sec - 1) with
    | false =>
      rw [f1] at he
      subst he
      go_wp2_with fail
      go_ret
      exact ⟨by simp [evF, f1], bel2 _ _ _⟩
    | true =>
      rw [f1] at he
      subst he
      by_cases hl : lie = 0
      · subst hl
        go_wp2_with fail
        go_ret
        exact ⟨by simp [evF, f1], bel2 _ _ _⟩
      · go_wp2_with fail
        go_ret
        exact ⟨by simp [evF, f1, hl], bel2 _ _ _⟩
  by_cases e5 : op = 5
  · subst e5
    go_enter Try.func50, Try.ntmps50
    go_wp2_with fail
    refine (in24 o 0 ((p.nw : Int) - 1) _).mono ?_
    rintro e wx ⟨he, hwx⟩
    have hwx := hwx.symm
    subst hwx
    cases f1 : inB o 0 ((p.nw : Int) - 1) with
    | false =>
      rw [f1] at he
      subst he
      go_wp2_with fail
      go_ret
      exact ⟨by simp [evF, f1], bel2 _ _ _⟩
    | true =>
      rw [f1] at he
      subst he
      go_wp2_with fail
      refine (in24 lie 0 2 _).mono ?_
      rintro e wx ⟨he, hwx⟩
      have hwx := hwx.symm
      subst hwx
      subst he
      go_wp2_with fail
      go_ret
      exact ⟨by simp [evF, f1], bel2 _ _ _⟩
  by_cases e6 : op = 6
  · subst e6
    go_enter Try.func50, Try.ntmps50
    go_wp2_with fail
    refine (in24 o 0 ((p.nw : Int) - 1) _).mono ?_
    rintro e wx ⟨he, hwx⟩
    have hwx := hwx.symm
    subst hwx
    cases f1 : inB o 0 ((p.nw : Int) - 1) with
    | false =>
      rw [f1] at he
      subst he
      go_wp2_with fail
      go_ret
      exact ⟨by simp [evF, f1], bel2 _ _ _⟩
    | true =>
      rw [f1] at he
      subst he
      go_wp2_with fail
      refine (in24 lie 1 2 _).mono ?_
      rintro e wx ⟨he, hwx⟩
      have hwx := hwx.symm
      subst hwx
      subst he
      go_wp2_with fail
      go_ret
      exact ⟨by simp [evF, f1], bel2 _ _ _⟩
  by_cases e7 : op = 7
  · subst e7
    by_cases ho : o = 0
    · subst ho
      by_cases hl : lie = 0
      · subst hl
        go_enter Try.func50, Try.ntmps50
        go_wp2_with fail
        go_ret
        exact ⟨by simp [evF], bel2 _ _ _⟩
      · go_enter Try.func50, Try.ntmps50
        go_wp2_with fail
        go_ret
        exact ⟨by simp [evF, hl], bel2 _ _ _⟩
    · go_enter Try.func50, Try.ntmps50
      go_wp2_with fail
      go_ret
      exact ⟨by simp [evF, ho], bel2 _ _ _⟩
  go_enter Try.func50, Try.ntmps50
  go_wp2_with fail
  go_ret
  exact ⟨by simp [evF, e1, e2, e3, e4, e5, e6, e7], bel2 _ _ _⟩

set_option maxHeartbeats 4000000 in
theorem ev51 (p : Pl) (wa ya ba : Option Addr) (wc yc bc : Nat) (op o lie : Int) (w : World) (h1 : 1 ≤ p.sec) (h2 : p.sec ≤ 60) (hw : p.nw ≤ 40) (hy : p.ny ≤ 100) :
    Calls Try.prog 51 #[.agg #[.int .i64 p.sec, .slice wa p.nw wc, .slice ya p.ny yc, .slice ba p.nb bc, .int .i64 p.hold], .agg #[.int .i64 op, .int .i64 o, .int .i64 lie]] w fun e w' => e = .returned (.bool (evF p op o lie)) ∧ Below w.heap.size w w' := by
  by_cases e1 : op = 1
  · subst e1
    go_enter Try.func51, Try.ntmps51
    go_wp2_with fail
    refine (place67 ya p.ny yc o _ (by omega)).mono ?_
    rintro e wx ⟨he, hwx⟩
    have hwx := hwx.symm
    subst hwx
    cases f1 : inB o 0 ((p.ny : Int) - 1) with
    | false =>
      rw [f1] at he
      subst he
      go_wp2_with fail
      go_ret
      exact ⟨by simp [evF, f1], bel2 _ _ _⟩
    | true =>
      rw [f1] at he
      subst he
      by_cases hl : lie = 0
      · subst hl
        go_wp2_with fail
        go_ret
        exact ⟨by simp [evF, f1], bel2 _ _ _⟩
      · go_wp2_with fail
        go_ret
        exact ⟨by simp [evF, f1, hl], bel2 _ _ _⟩
  by_cases e2 : op = 2
  · subst e2
    go_enter Try.func51, Try.ntmps51
    go_wp2_with fail
    refine (place67 ya p.ny yc o _ (by omega)).mono ?_
    rintro e wx ⟨he, hwx⟩
    have hwx := hwx.symm
    subst hwx
    cases f1 : inB o 0 ((p.ny : Int) - 1) with
    | false =>
      rw [f1] at he
      subst he
      go_wp2_with fail
      go_ret
      exact ⟨by simp [evF, f1], bel2 _ _ _⟩
    | true =>
      rw [f1] at he
      subst he
      by_cases hl : lie = 0
      · subst hl
        go_wp2_with fail
        go_ret
        exact ⟨by simp [evF, f1], bel2 _ _ _⟩
      · go_wp2_with fail
        go_ret
        exact ⟨by simp [evF, f1, hl], bel2 _ _ _⟩
  by_cases e3 : op = 3
  · subst e3
    go_enter Try.func51, Try.ntmps51
    go_wp2_with fail
    refine (within30 o 0 (p.sec - 1) _).mono ?_
    rintro e wx ⟨he, hwx⟩
    have hwx := hwx.symm
    subst hwx
    cases f1 : inB o 0 (p.sec - 1) with
    | false =>
      rw [f1] at he
      subst he
      go_wp2_with fail
      go_ret
      exact ⟨by simp [evF, f1], bel2 _ _ _⟩
    | true =>
      rw [f1] at he
      subst he
      by_cases hl : lie = 0
      · subst hl
        go_wp2_with fail
        go_ret
        exact ⟨by simp [evF, f1], bel2 _ _ _⟩
      · go_wp2_with fail
        go_ret
        exact ⟨by simp [evF, f1, hl], bel2 _ _ _⟩
  by_cases e4 : op = 4
  · subst e4
    go_enter Try.func51, Try.ntmps51
    go_wp2_with fail
    refine (within30 o 0 (p.sec - 1) _).mono ?_
    rintro e wx ⟨he, hwx⟩
    have hwx := hwx.symm
    subst hwx
    cases f1 : inB o 0 (p.sec - 1) with
    | false =>
      rw [f1] at he
      subst he
      go_wp2_with fail
      go_ret
      exact ⟨by simp [evF, f1], bel2 _ _ _⟩
    | true =>
      rw [f1] at he
      subst he
      by_cases hl : lie = 0
      · subst hl
        go_wp2_with fail
        go_ret
        exact ⟨by simp [evF, f1], bel2 _ _ _⟩
      · go_wp2_with fail
        go_ret
        exact ⟨by simp [evF, f1, hl], bel2 _ _ _⟩
  by_cases e5 : op = 5
  · subst e5
    go_enter Try.func51, Try.ntmps51
    go_wp2_with fail
    refine (place68 wa p.nw wc o _ (by omega)).mono ?_
    rintro e wx ⟨he, hwx⟩
    have hwx := hwx.symm
    subst hwx
    cases f1 : inB o 0 ((p.nw : Int) - 1) with
    | false =>
      rw [f1] at he
      subst he
      go_wp2_with fail
      go_ret
      exact ⟨by simp [evF, f1], bel2 _ _ _⟩
    | true =>
      rw [f1] at he
      subst he
      go_wp2_with fail
      refine (within30 lie 0 2 _).mono ?_
      rintro e wx ⟨he, hwx⟩
      have hwx := hwx.symm
      subst hwx
      subst he
      go_wp2_with fail
      go_ret
      exact ⟨by simp [evF, f1], bel2 _ _ _⟩
  by_cases e6 : op = 6
  · subst e6
    go_enter Try.func51, Try.ntmps51
    go_wp2_with fail
    refine (place68 wa p.nw wc o _ (by omega)).mono ?_
    rintro e wx ⟨he, hwx⟩
    have hwx := hwx.symm
    subst hwx
    cases f1 : inB o 0 ((p.nw : Int) - 1) with
    | false =>
      rw [f1] at he
      subst he
      go_wp2_with fail
      go_ret
      exact ⟨by simp [evF, f1], bel2 _ _ _⟩
    | true =>
      rw [f1] at he
      subst he
      go_wp2_with fail
      refine (within30 lie 1 2 _).mono ?_
      rintro e wx ⟨he, hwx⟩
      have hwx := hwx.symm
      subst hwx
      subst he
      go_wp2_with fail
      go_ret
      exact ⟨by simp [evF, f1], bel2 _ _ _⟩
  by_cases e7 : op = 7
  · subst e7
    by_cases ho : o = 0
    · subst ho
      by_cases hl : lie = 0
      · subst hl
        go_enter Try.func51, Try.ntmps51
        go_wp2_with fail
        go_ret
        exact ⟨by simp [evF], bel2 _ _ _⟩
      · go_enter Try.func51, Try.ntmps51
        go_wp2_with fail
        go_ret
        exact ⟨by simp [evF, hl], bel2 _ _ _⟩
    · go_enter Try.func51, Try.ntmps51
      go_wp2_with fail
      go_ret
      exact ⟨by simp [evF, ho], bel2 _ _ _⟩
  go_enter Try.func51, Try.ntmps51
  go_wp2_with fail
  go_ret
  exact ⟨by simp [evF, e1, e2, e3, e4, e5, e6, e7], bel2 _ _ _⟩

end Go.Proofs.Ytooebighlohobaa
