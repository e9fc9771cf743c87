import Derived.Test.YtmcaohablpaknaaL3
namespace Go.Proofs.Ytmcaohablpaknaa
open Go.RowKit

/-- the event's table -/
def evB (sec : Int) (n : Nat) (op of dir : Int) : Bool :=
  if op = 1 ∨ op = 2 then decide (0 ≤ of ∧ of ≤ (n : Int) - 1) && decide (dir = 1 ∨ dir = -1)
  else if op = 3 ∨ op = 4 then decide (0 ≤ of ∧ of ≤ (n : Int) - 1) && decide (dir = 0)
  else if op = 5 then decide (0 ≤ of ∧ of ≤ sec - 1) && decide (dir = 0) else false

theorem isSecT (sec : Int) (a : Option Addr) (n cap : Nat) (x : Int) (w : World) (s1 : 1 ≤ sec) (s2 : sec ≤ 60) (h : 0 ≤ x ∧ x ≤ sec - 1) : Calls Try.prog 42 #[.agg #[.int .i64 sec, .slice a n cap], .int .i64 x] w fun e w' => e = .returned (.bool true) ∧ Below w.heap.size w w' := by
  go_enter Try.func42, Try.ntmps42
  go_wp2_with fail
  refine (withinT x 0 (sec - 1) _ h).mono ?_
  rintro e w1 ⟨rfl, rfl⟩
  go_wp2_with fail
  go_ret
  exact ⟨rfl, bel1 _ _⟩
theorem isSecF (sec : Int) (a : Option Addr) (n cap : Nat) (x : Int) (w : World) (s1 : 1 ≤ sec) (s2 : sec ≤ 60) (h : ¬ (0 ≤ x ∧ x ≤ sec - 1)) : Calls Try.prog 42 #[.agg #[.int .i64 sec, .slice a n cap], .int .i64 x] w fun e w' => e = .returned (.bool false) ∧ Below w.heap.size w w' := by
  go_enter Try.func42, Try.ntmps42
  go_wp2_with fail
  refine (withinF x 0 (sec - 1) _ h).mono ?_
  rintro e w1 ⟨rfl, rfl⟩
  go_wp2_with fail
  go_ret
  exact ⟨rfl, bel1 _ _⟩
theorem isCntT (sec : Int) (a : Option Addr) (n cap : Nat) (x : Int) (w : World) (hn : n ≤ 120) (h : 0 ≤ x ∧ x ≤ (n : Int) - 1) : Calls Try.prog 51 #[.agg #[.int .i64 sec, .slice a n cap], .int .i64 x] w fun e w' => e = .returned (.bool true) ∧ Below w.heap.size w w' := by
  go_enter Try.func51, Try.ntmps51
  go_wp2_with fail
  refine (withinT x 0 ((n : Int) - 1) _ h).mono ?_
  rintro e w1 ⟨rfl, rfl⟩
  go_wp2_with fail
  go_ret
  exact ⟨rfl, bel1 _ _⟩
theorem isCntF (sec : Int) (a : Option Addr) (n cap : Nat) (x : Int) (w : World) (hn : n ≤ 120) (h : ¬ (0 ≤ x ∧ x ≤ (n : Int) - 1)) : Calls Try.prog 51 #[.agg #[.int .i64 sec, .slice a n cap], .int .i64 x] w fun e w' => e = .returned (.bool false) ∧ Below w.heap.size w w' := by
  go_enter Try.func51, Try.ntmps51
  go_wp2_with fail
  refine (withinF x 0 ((n : Int) - 1) _ h).mono ?_
  rintro e w1 ⟨rfl, rfl⟩
  go_wp2_with fail
  go_ret
  exact ⟨rfl, bel1 _ _⟩

set_option maxRecDepth 10000 in
set_option maxHeartbeats 4000000 in
theorem evI (sec : Int) (a : Option Addr) (n cap : Nat) (K : Nat → Nat → Int) (op of dir : Int) (w : World) (hn : n ≤ 1048576) (hE : VsAt 2 0 w a n (intF K)) :
    Calls Try.prog 27 #[.agg #[.int .i64 sec, .slice a n cap], .agg #[.int .i64 op, .int .i64 of, .int .i64 dir]] w fun e w' => e = .returned (.bool (decide (layOk sec n K = 0) && evB sec n op of dir)) ∧ Below w.heap.size w w' := by
  have HE : Hid (VsAt 2 0 w a n (intF K)) := hE
  clear hE
  go_enter Try.func27, Try.ntmps27
  go_wp2_with fail
  have B0 := bel2 w (.cells #[.int .i64 sec, .slice a n cap] 29) (.cells #[.int .i64 op, .int .i64 of, .int .i64 dir] 49)
  have L0 := (Box.new w 29 #[.int .i64 sec, .slice a n cap]).alloc (.cells #[.int .i64 op, .int .i64 of, .int .i64 dir] 49)
  have A0 := Box.new (w.alloc (.cells #[.int .i64 sec, .slice a n cap] 29)) 49 #[.int .i64 op, .int .i64 of, .int .i64 dir]
  have z1 : (w.alloc (.cells #[.int .i64 sec, .slice a n cap] 29)).heap.size = w.heap.size + 1 := by simp
  rw [z1] at A0
  refine (layI sec a n cap K _ hn (HE.out.mono (Nat.le_refl _) B0 (Nat.le_refl _))).mono ?_
  rintro e w1 ⟨rfl, hb1⟩
  have L1 := L0.mono hb1 (Nat.le_refl _)
  have A1 := A0.mono hb1 (Nat.le_refl _)
  have B1 := B0.trans (hb1.mono B0.size)
  have l0 : w1.cell? ⟨w.heap.size, 0, none⟩ = some (.int .i64 sec) := L1.cell 0
  have l1 : w1.cell? ⟨w.heap.size, 1, none⟩ = some (.slice a n cap) := L1.cell 1
  have c0 : w1.cell? ⟨w.heap.size + 1, 0, none⟩ = some (.int .i64 op) := A1.cell 0
  have c1 : w1.cell? ⟨w.heap.size + 1, 1, none⟩ = some (.int .i64 of) := A1.cell 1
  have c2 : w1.cell? ⟨w.heap.size + 1, 2, none⟩ = some (.int .i64 dir) := A1.cell 2
  have HH : Hid (Box w1 (w.heap.size + 1) 49 #[.int .i64 op, .int .i64 of, .int .i64 dir] ∧ Below w.heap.size w w1) := ⟨A1, B1⟩
  clear L0 A0 B0 L1 A1 B1 hb1 z1
  by_cases hok : layOk sec n K = 0
  · have hg := layGood hok
    have s1 := hg.s1
    have s2 := hg.s2
    have n120 : n ≤ 120 := hg.m
    have HV : Hid (∀ b, evB sec n op of dir = b → (decide (layOk sec n K = 0) && evB sec n op of dir) = b) := fun b hb => by rw [hok, hb]; simp
    clear hg
    rw [hok]
    clear hok
    by_cases o1 : op = 1
    · subst o1
      by_cases hr : 0 ≤ of ∧ of ≤ (n : Int) - 1
      · by_cases e1 : dir = 1
        · have hev := HV.out true (by simp [evB, hr, e1])
          go_wp2_with fail
          refine (isCntT sec a n cap of _ n120 hr).mono ?_
          rintro e w2 ⟨rfl, hb2⟩
          have A2 := HH.out.1.mono hb2 (Nat.le_refl _)
          have d2 : w2.cell? ⟨w.heap.size + 1, 2, none⟩ = some (.int .i64 dir) := A2.cell 2
          have HB2 : Hid (Below w.heap.size w w2) := HH.out.2.trans (hb2.mono HH.out.2.size)
          clear A2 hb2
          go_wp2_with fail
          go_ret
          exact ⟨by rw [hev]; (first | rfl | (simp; done) | (simp [e1]; done)), HB2.out⟩
        · by_cases e2 : dir = -1
          · have hev := HV.out true (by simp [evB, hr, e2])
            go_wp2_with fail
            refine (isCntT sec a n cap of _ n120 hr).mono ?_
            rintro e w2 ⟨rfl, hb2⟩
            have A2 := HH.out.1.mono hb2 (Nat.le_refl _)
            have d2 : w2.cell? ⟨w.heap.size + 1, 2, none⟩ = some (.int .i64 dir) := A2.cell 2
            have HB2 : Hid (Below w.heap.size w w2) := HH.out.2.trans (hb2.mono HH.out.2.size)
            clear A2 hb2
            go_wp2_with fail
            go_ret
            exact ⟨by rw [hev]; (first | rfl | (simp; done) | (simp [e2]; done)), HB2.out⟩
          · have hev := HV.out false (by simp [evB, e1, e2])
            go_wp2_with fail
            refine (isCntT sec a n cap of _ n120 hr).mono ?_
            rintro e w2 ⟨rfl, hb2⟩
            have A2 := HH.out.1.mono hb2 (Nat.le_refl _)
            have d2 : w2.cell? ⟨w.heap.size + 1, 2, none⟩ = some (.int .i64 dir) := A2.cell 2
            have HB2 : Hid (Below w.heap.size w w2) := HH.out.2.trans (hb2.mono HH.out.2.size)
            clear A2 hb2
            go_wp2_with fail
            go_ret
            exact ⟨by rw [hev]; (first | rfl | (simp; done) | (simp [e1, e2]; done)), HB2.out⟩
      · have hev := HV.out false (by simp [evB]; intros; omega)
        go_wp2_with fail
        refine (isCntF sec a n cap of _ n120 hr).mono ?_
        rintro e w2 ⟨rfl, hb2⟩
        have A2 := HH.out.1.mono hb2 (Nat.le_refl _)
        have d2 : w2.cell? ⟨w.heap.size + 1, 2, none⟩ = some (.int .i64 dir) := A2.cell 2
        have HB2 : Hid (Below w.heap.size w w2) := HH.out.2.trans (hb2.mono HH.out.2.size)
        clear A2 hb2
        go_wp2_with fail
        go_ret
        exact ⟨by rw [hev]; rfl, HB2.out⟩
    · by_cases o2 : op = 2
      · subst o2
        by_cases hr : 0 ≤ of ∧ of ≤ (n : Int) - 1
        · by_cases e1 : dir = 1
          · have hev := HV.out true (by simp [evB, hr, e1])
            go_wp2_with fail
            refine (isCntT sec a n cap of _ n120 hr).mono ?_
            rintro e w2 ⟨rfl, hb2⟩
            have A2 := HH.out.1.mono hb2 (Nat.le_refl _)
            have d2 : w2.cell? ⟨w.heap.size + 1, 2, none⟩ = some (.int .i64 dir) := A2.cell 2
            have HB2 : Hid (Below w.heap.size w w2) := HH.out.2.trans (hb2.mono HH.out.2.size)
            clear A2 hb2
            go_wp2_with fail
            go_ret
            exact ⟨by rw [hev]; (first | rfl | (simp; done) | (simp [e1]; done)), HB2.out⟩
          · by_cases e2 : dir = -1
            · have hev := HV.out true (by simp [evB, hr, e2])
              go_wp2_with fail
              refine (isCntT sec a n cap of _ n120 hr).mono ?_
              rintro e w2 ⟨rfl, hb2⟩
              have A2 := HH.out.1.mono hb2 (Nat.le_refl _)
              have d2 : w2.cell? ⟨w.heap.size + 1, 2, none⟩ = some (.int .i64 dir) := A2.cell 2
              have HB2 : Hid (Below w.heap.size w w2) := HH.out.2.trans (hb2.mono HH.out.2.size)
              clear A2 hb2
              go_wp2_with fail
              go_ret
              exact ⟨by rw [hev]; (first | rfl | (simp; done) | (simp [e2]; done)), HB2.out⟩
            · have hev := HV.out false (by simp [evB, e1, e2])
              go_wp2_with fail
              refine (isCntT sec a n cap of _ n120 hr).mono ?_
              rintro e w2 ⟨rfl, hb2⟩
              have A2 := HH.out.1.mono hb2 (Nat.le_refl _)
              have d2 : w2.cell? ⟨w.heap.size + 1, 2, none⟩ = some (.int .i64 dir) := A2.cell 2
              have HB2 : Hid (Below w.heap.size w w2) := HH.out.2.trans (hb2.mono HH.out.2.size)
              clear A2 hb2
              go_wp2_with fail
              go_ret
              exact ⟨by rw [hev]; (first | rfl | (simp; done) | (simp [e1, e2]; done)), HB2.out⟩
        · have hev := HV.out false (by simp [evB]; intros; omega)
          go_wp2_with fail
          refine (isCntF sec a n cap of _ n120 hr).mono ?_
          rintro e w2 ⟨rfl, hb2⟩
          have A2 := HH.out.1.mono hb2 (Nat.le_refl _)
          have d2 : w2.cell? ⟨w.heap.size + 1, 2, none⟩ = some (.int .i64 dir) := A2.cell 2
          have HB2 : Hid (Below w.heap.size w w2) := HH.out.2.trans (hb2.mono HH.out.2.size)
          clear A2 hb2
          go_wp2_with fail
          go_ret
          exact ⟨by rw [hev]; rfl, HB2.out⟩
      · by_cases o3 : op = 3
        · subst o3
          by_cases hr : 0 ≤ of ∧ of ≤ (n : Int) - 1
          · by_cases e1 : dir = 0
            · have hev := HV.out true (by simp [evB, hr, e1])
              go_wp2_with fail
              refine (isCntT sec a n cap of _ n120 hr).mono ?_
              rintro e w2 ⟨rfl, hb2⟩
              have A2 := HH.out.1.mono hb2 (Nat.le_refl _)
              have d2 : w2.cell? ⟨w.heap.size + 1, 2, none⟩ = some (.int .i64 dir) := A2.cell 2
              have HB2 : Hid (Below w.heap.size w w2) := HH.out.2.trans (hb2.mono HH.out.2.size)
              clear A2 hb2
              go_wp2_with fail
              go_ret
              exact ⟨by rw [hev]; (first | rfl | (simp; done) | (simp [e1]; done)), HB2.out⟩
            · have hev := HV.out false (by simp [evB, e1])
              go_wp2_with fail
              refine (isCntT sec a n cap of _ n120 hr).mono ?_
              rintro e w2 ⟨rfl, hb2⟩
              have A2 := HH.out.1.mono hb2 (Nat.le_refl _)
              have d2 : w2.cell? ⟨w.heap.size + 1, 2, none⟩ = some (.int .i64 dir) := A2.cell 2
              have HB2 : Hid (Below w.heap.size w w2) := HH.out.2.trans (hb2.mono HH.out.2.size)
              clear A2 hb2
              go_wp2_with fail
              go_ret
              exact ⟨by rw [hev]; (first | rfl | (simp; done) | (simp [e1]; done)), HB2.out⟩
          · have hev := HV.out false (by simp [evB]; intros; omega)
            go_wp2_with fail
            refine (isCntF sec a n cap of _ n120 hr).mono ?_
            rintro e w2 ⟨rfl, hb2⟩
            have A2 := HH.out.1.mono hb2 (Nat.le_refl _)
            have d2 : w2.cell? ⟨w.heap.size + 1, 2, none⟩ = some (.int .i64 dir) := A2.cell 2
            have HB2 : Hid (Below w.heap.size w w2) := HH.out.2.trans (hb2.mono HH.out.2.size)
            clear A2 hb2
            go_wp2_with fail
            go_ret
            exact ⟨by rw [hev]; rfl, HB2.out⟩
        · by_cases o4 : op = 4
          · subst o4
            by_cases hr : 0 ≤ of ∧ of ≤ (n : Int) - 1
            · by_cases e1 : dir = 0
              · have hev := HV.out true (by simp [evB, hr, e1])
                go_wp2_with fail
                refine (isCntT sec a n cap of _ n120 hr).mono ?_
                rintro e w2 ⟨rfl, hb2⟩
                have A2 := HH.out.1.mono hb2 (Nat.le_refl _)
                have d2 : w2.cell? ⟨w.heap.size + 1, 2, none⟩ = some (.int .i64 dir) := A2.cell 2
                have HB2 : Hid (Below w.heap.size w w2) := HH.out.2.trans (hb2.mono HH.out.2.size)
                clear A2 hb2
                go_wp2_with fail
                go_ret
                exact ⟨by rw [hev]; (first | rfl | (simp; done) | (simp [e1]; done)), HB2.out⟩
              · have hev := HV.out false (by simp [evB, e1])
                go_wp2_with fail
                refine (isCntT sec a n cap of _ n120 hr).mono ?_
                rintro e w2 ⟨rfl, hb2⟩
                have A2 := HH.out.1.mono hb2 (Nat.le_refl _)
                have d2 : w2.cell? ⟨w.heap.size + 1, 2, none⟩ = some (.int .i64 dir) := A2.cell 2
                have HB2 : Hid (Below w.heap.size w w2) := HH.out.2.trans (hb2.mono HH.out.2.size)
                clear A2 hb2
                go_wp2_with fail
                go_ret
                exact ⟨by rw [hev]; (first | rfl | (simp; done) | (simp [e1]; done)), HB2.out⟩
            · have hev := HV.out false (by simp [evB]; intros; omega)
              go_wp2_with fail
              refine (isCntF sec a n cap of _ n120 hr).mono ?_
              rintro e w2 ⟨rfl, hb2⟩
              have A2 := HH.out.1.mono hb2 (Nat.le_refl _)
              have d2 : w2.cell? ⟨w.heap.size + 1, 2, none⟩ = some (.int .i64 dir) := A2.cell 2
              have HB2 : Hid (Below w.heap.size w w2) := HH.out.2.trans (hb2.mono HH.out.2.size)
              clear A2 hb2
              go_wp2_with fail
              go_ret
              exact ⟨by rw [hev]; rfl, HB2.out⟩
          · by_cases o5 : op = 5
            · subst o5
              by_cases hr : 0 ≤ of ∧ of ≤ sec - 1
              · by_cases e1 : dir = 0
                · have hev := HV.out true (by simp [evB, hr, e1])
                  go_wp2_with fail
                  refine (isSecT sec a n cap of _ s1 s2 hr).mono ?_
                  rintro e w2 ⟨rfl, hb2⟩
                  have A2 := HH.out.1.mono hb2 (Nat.le_refl _)
                  have d2 : w2.cell? ⟨w.heap.size + 1, 2, none⟩ = some (.int .i64 dir) := A2.cell 2
                  have HB2 : Hid (Below w.heap.size w w2) := HH.out.2.trans (hb2.mono HH.out.2.size)
                  clear A2 hb2
                  go_wp2_with fail
                  go_ret
                  exact ⟨by rw [hev]; (first | rfl | (simp; done) | (simp [e1]; done)), HB2.out⟩
                · have hev := HV.out false (by simp [evB, e1])
                  go_wp2_with fail
                  refine (isSecT sec a n cap of _ s1 s2 hr).mono ?_
                  rintro e w2 ⟨rfl, hb2⟩
                  have A2 := HH.out.1.mono hb2 (Nat.le_refl _)
                  have d2 : w2.cell? ⟨w.heap.size + 1, 2, none⟩ = some (.int .i64 dir) := A2.cell 2
                  have HB2 : Hid (Below w.heap.size w w2) := HH.out.2.trans (hb2.mono HH.out.2.size)
                  clear A2 hb2
                  go_wp2_with fail
                  go_ret
                  exact ⟨by rw [hev]; (first | rfl | (simp; done) | (simp [e1]; done)), HB2.out⟩
              · have hev := HV.out false (by simp [evB]; intros; omega)
                go_wp2_with fail
                refine (isSecF sec a n cap of _ s1 s2 hr).mono ?_
                rintro e w2 ⟨rfl, hb2⟩
                have A2 := HH.out.1.mono hb2 (Nat.le_refl _)
                have d2 : w2.cell? ⟨w.heap.size + 1, 2, none⟩ = some (.int .i64 dir) := A2.cell 2
                have HB2 : Hid (Below w.heap.size w w2) := HH.out.2.trans (hb2.mono HH.out.2.size)
                clear A2 hb2
                go_wp2_with fail
                go_ret
                exact ⟨by rw [hev]; rfl, HB2.out⟩
            · have hev := HV.out false (by simp [evB, o1, o2, o3, o4, o5])
              go_wp2_with fail
              go_ret
              exact ⟨by rw [hev]; rfl, HH.out.2⟩
  · have HV : Hid ((decide (layOk sec n K = 0) && evB sec n op of dir) = false) := by rw [decide_eq_false hok]; rfl
    generalize layOk sec n K = r at hok
    go_wp2_with fail
    go_ret
    exact ⟨by rw [HV.out]; rfl, HH.out.2⟩

set_option maxRecDepth 10000 in
set_option maxHeartbeats 4000000 in
theorem evS (sec : Int) (a : Option Addr) (n cap : Nat) (K : Nat → Nat → Int) (op of dir : Int) (w : World) (hn : n ≤ 1048576) (hE : VsAt 2 0 w a n (intF K)) :
    Calls Try.prog 25 #[.agg #[.int .i64 sec, .slice a n cap], .agg #[.int .i64 op, .int .i64 of, .int .i64 dir]] w fun e w' => e = .returned (.bool (decide (layOk sec n K = 0) && evB sec n op of dir)) ∧ Below w.heap.size w w' := by
  have HE : Hid (VsAt 2 0 w a n (intF K)) := hE
  clear hE
  go_enter Try.func25, Try.ntmps25
  go_wp2_with fail
  have B0 := bel2 w (.cells #[.int .i64 sec, .slice a n cap] 29) (.cells #[.int .i64 op, .int .i64 of, .int .i64 dir] 49)
  have L0 := (Box.new w 29 #[.int .i64 sec, .slice a n cap]).alloc (.cells #[.int .i64 op, .int .i64 of, .int .i64 dir] 49)
  have A0 := Box.new (w.alloc (.cells #[.int .i64 sec, .slice a n cap] 29)) 49 #[.int .i64 op, .int .i64 of, .int .i64 dir]
  have z1 : (w.alloc (.cells #[.int .i64 sec, .slice a n cap] 29)).heap.size = w.heap.size + 1 := by simp
  rw [z1] at A0
  refine (layS sec a n cap K _ hn (HE.out.mono (Nat.le_refl _) B0 (Nat.le_refl _))).mono ?_
  rintro e w1 ⟨rfl, hb1⟩
  have L1 := L0.mono hb1 (Nat.le_refl _)
  have A1 := A0.mono hb1 (Nat.le_refl _)
  have B1 := B0.trans (hb1.mono B0.size)
  have l0 : w1.cell? ⟨w.heap.size, 0, none⟩ = some (.int .i64 sec) := L1.cell 0
  have l1 : w1.cell? ⟨w.heap.size, 1, none⟩ = some (.slice a n cap) := L1.cell 1
  have c0 : w1.cell? ⟨w.heap.size + 1, 0, none⟩ = some (.int .i64 op) := A1.cell 0
  have c1 : w1.cell? ⟨w.heap.size + 1, 1, none⟩ = some (.int .i64 of) := A1.cell 1
  have c2 : w1.cell? ⟨w.heap.size + 1, 2, none⟩ = some (.int .i64 dir) := A1.cell 2
  have HH : Hid (Box w1 (w.heap.size + 1) 49 #[.int .i64 op, .int .i64 of, .int .i64 dir] ∧ Below w.heap.size w w1) := ⟨A1, B1⟩
  clear L0 A0 B0 L1 A1 B1 hb1 z1
  by_cases hok : layOk sec n K = 0
  · have hg := layGood hok
    have s1 := hg.s1
    have s2 := hg.s2
    have n120 : n ≤ 120 := hg.m
    have HV : Hid (∀ b, evB sec n op of dir = b → (decide (layOk sec n K = 0) && evB sec n op of dir) = b) := fun b hb => by rw [hok, hb]; simp
    clear hg
    rw [hok]
    clear hok
    by_cases o1 : op = 1
    · subst o1
      by_cases hr : 0 ≤ of ∧ of ≤ (n : Int) - 1
      · by_cases e1 : dir = 1
        · have hev := HV.out true (by simp [evB, hr, e1])
          go_wp2_with fail
          refine (innT of 0 ((n : Int) - 1) _ hr).mono ?_
          rintro e w2 ⟨rfl, rfl⟩
          go_wp2_with fail
          go_ret
          exact ⟨by rw [hev]; (first | rfl | (simp; done) | (simp [e1]; done)), HH.out.2⟩
        · by_cases e2 : dir = -1
          · have hev := HV.out true (by simp [evB, hr, e2])
            go_wp2_with fail
            refine (innT of 0 ((n : Int) - 1) _ hr).mono ?_
            rintro e w2 ⟨rfl, rfl⟩
            go_wp2_with fail
            go_ret
            exact ⟨by rw [hev]; (first | rfl | (simp; done) | (simp [e2]; done)), HH.out.2⟩
          · have hev := HV.out false (by simp [evB, e1, e2])
            go_wp2_with fail
            refine (innT of 0 ((n : Int) - 1) _ hr).mono ?_
            rintro e w2 ⟨rfl, rfl⟩
            go_wp2_with fail
            go_ret
            exact ⟨by rw [hev]; (first | rfl | (simp; done) | (simp [e1, e2]; done)), HH.out.2⟩
      · have hev := HV.out false (by simp [evB]; intros; omega)
        go_wp2_with fail
        refine (innF of 0 ((n : Int) - 1) _ hr).mono ?_
        rintro e w2 ⟨rfl, rfl⟩
        go_wp2_with fail
        go_ret
        exact ⟨by rw [hev]; rfl, HH.out.2⟩
    · by_cases o2 : op = 2
      · subst o2
        by_cases hr : 0 ≤ of ∧ of ≤ (n : Int) - 1
        · by_cases e1 : dir = 1
          · have hev := HV.out true (by simp [evB, hr, e1])
            go_wp2_with fail
            refine (innT of 0 ((n : Int) - 1) _ hr).mono ?_
            rintro e w2 ⟨rfl, rfl⟩
            go_wp2_with fail
            go_ret
            exact ⟨by rw [hev]; (first | rfl | (simp; done) | (simp [e1]; done)), HH.out.2⟩
          · by_cases e2 : dir = -1
            · have hev := HV.out true (by simp [evB, hr, e2])
              go_wp2_with fail
              refine (innT of 0 ((n : Int) - 1) _ hr).mono ?_
              rintro e w2 ⟨rfl, rfl⟩
              go_wp2_with fail
              go_ret
              exact ⟨by rw [hev]; (first | rfl | (simp; done) | (simp [e2]; done)), HH.out.2⟩
            · have hev := HV.out false (by simp [evB, e1, e2])
              go_wp2_with fail
              refine (innT of 0 ((n : Int) - 1) _ hr).mono ?_
              rintro e w2 ⟨rfl, rfl⟩
              go_wp2_with fail
              go_ret
              exact ⟨by rw [hev]; (first | rfl | (simp; done) | (simp [e1, e2]; done)), HH.out.2⟩
        · have hev := HV.out false (by simp [evB]; intros; omega)
          go_wp2_with fail
          refine (innF of 0 ((n : Int) - 1) _ hr).mono ?_
          rintro e w2 ⟨rfl, rfl⟩
          go_wp2_with fail
          go_ret
          exact ⟨by rw [hev]; rfl, HH.out.2⟩
      · by_cases o3 : op = 3
        · subst o3
          by_cases hr : 0 ≤ of ∧ of ≤ (n : Int) - 1
          · by_cases e1 : dir = 0
            · have hev := HV.out true (by simp [evB, hr, e1])
              go_wp2_with fail
              refine (innT of 0 ((n : Int) - 1) _ hr).mono ?_
              rintro e w2 ⟨rfl, rfl⟩
              go_wp2_with fail
              go_ret
              exact ⟨by rw [hev]; (first | rfl | (simp; done) | (simp [e1]; done)), HH.out.2⟩
            · have hev := HV.out false (by simp [evB, e1])
              go_wp2_with fail
              refine (innT of 0 ((n : Int) - 1) _ hr).mono ?_
              rintro e w2 ⟨rfl, rfl⟩
              go_wp2_with fail
              go_ret
              exact ⟨by rw [hev]; (first | rfl | (simp; done) | (simp [e1]; done)), HH.out.2⟩
          · have hev := HV.out false (by simp [evB]; intros; omega)
            go_wp2_with fail
            refine (innF of 0 ((n : Int) - 1) _ hr).mono ?_
            rintro e w2 ⟨rfl, rfl⟩
            go_wp2_with fail
            go_ret
            exact ⟨by rw [hev]; rfl, HH.out.2⟩
        · by_cases o4 : op = 4
          · subst o4
            by_cases hr : 0 ≤ of ∧ of ≤ (n : Int) - 1
            · by_cases e1 : dir = 0
              · have hev := HV.out true (by simp [evB, hr, e1])
                go_wp2_with fail
                refine (innT of 0 ((n : Int) - 1) _ hr).mono ?_
                rintro e w2 ⟨rfl, rfl⟩
                go_wp2_with fail
                go_ret
                exact ⟨by rw [hev]; (first | rfl | (simp; done) | (simp [e1]; done)), HH.out.2⟩
              · have hev := HV.out false (by simp [evB, e1])
                go_wp2_with fail
                refine (innT of 0 ((n : Int) - 1) _ hr).mono ?_
                rintro e w2 ⟨rfl, rfl⟩
                go_wp2_with fail
                go_ret
                exact ⟨by rw [hev]; (first | rfl | (simp; done) | (simp [e1]; done)), HH.out.2⟩
            · have hev := HV.out false (by simp [evB]; intros; omega)
              go_wp2_with fail
              refine (innF of 0 ((n : Int) - 1) _ hr).mono ?_
              rintro e w2 ⟨rfl, rfl⟩
              go_wp2_with fail
              go_ret
              exact ⟨by rw [hev]; rfl, HH.out.2⟩
          · by_cases o5 : op = 5
            · subst o5
              by_cases hr : 0 ≤ of ∧ of ≤ sec - 1
              · by_cases e1 : dir = 0
                · have hev := HV.out true (by simp [evB, hr, e1])
                  go_wp2_with fail
                  refine (innT of 0 (sec - 1) _ hr).mono ?_
                  rintro e w2 ⟨rfl, rfl⟩
                  go_wp2_with fail
                  go_ret
                  exact ⟨by rw [hev]; (first | rfl | (simp; done) | (simp [e1]; done)), HH.out.2⟩
                · have hev := HV.out false (by simp [evB, e1])
                  go_wp2_with fail
                  refine (innT of 0 (sec - 1) _ hr).mono ?_
                  rintro e w2 ⟨rfl, rfl⟩
                  go_wp2_with fail
                  go_ret
                  exact ⟨by rw [hev]; (first | rfl | (simp; done) | (simp [e1]; done)), HH.out.2⟩
              · have hev := HV.out false (by simp [evB]; intros; omega)
                go_wp2_with fail
                refine (innF of 0 (sec - 1) _ hr).mono ?_
                rintro e w2 ⟨rfl, rfl⟩
                go_wp2_with fail
                go_ret
                exact ⟨by rw [hev]; rfl, HH.out.2⟩
            · have hev := HV.out false (by simp [evB, o1, o2, o3, o4, o5])
              go_wp2_with fail
              go_ret
              exact ⟨by rw [hev]; rfl, HH.out.2⟩
  · have HV : Hid ((decide (layOk sec n K = 0) && evB sec n op of dir) = false) := by rw [decide_eq_false hok]; rfl
    generalize layOk sec n K = r at hok
    go_wp2_with fail
    go_ret
    exact ⟨by rw [HV.out]; rfl, HH.out.2⟩

end Go.Proofs.Ytmcaohablpaknaa
