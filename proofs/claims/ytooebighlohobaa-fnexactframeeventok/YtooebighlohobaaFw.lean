import Derived.Test.YtooebighlohobaaFv
import Derived.Test.YtooebighlohobaaSd
namespace Go.Proofs.Ytooebighlohobaa
open Go.RowKit

theorem plan5_zero {p : Pl} (h : (plan5 p).1 = 0) : (plan5 p).2 = 0 := by
  unfold plan5 at h ⊢
  cases e : firstB (fun i => anyB (barF p i) (p.K i)) p.nb with
  | none => rfl
  | some i => simp [e] at h
theorem plan4_zero {p : Pl} (h : (plan4 p).1 = 0) : (plan4 p).2 = 0 := by
  unfold plan4 at h ⊢
  by_cases hb : p.nb = p.ny
  · rw [if_pos hb] at h ⊢
    cases e : firstB (fun i => decide (p.K i ≠ p.ny)) p.nb with
    | none => rw [e] at h; exact plan5_zero h
    | some i => rw [e] at h; simp at h
  · rw [if_neg hb] at h
    simp at h
theorem plan3_zero {p : Pl} (h : (plan3 p).1 = 0) : (plan3 p).2 = 0 := by
  unfold plan3 at h ⊢
  cases e : firstB (fun i => !wayF p (p.Y i)) p.ny with
  | none => rw [e] at h; exact plan4_zero h
  | some i => rw [e] at h; simp at h
theorem plan2_zero {p : Pl} (h : (plan2 p).1 = 0) : (plan2 p).2 = 0 := by
  unfold plan2 at h ⊢
  cases e : firstB (fun i => !inB (p.W i) 0 (p.sec - 1)) p.nw with
  | none => rw [e] at h; exact plan3_zero h
  | some i => rw [e] at h; simp at h
/-- a plan with nothing wrong: no place either, and its numbers can be -/
theorem planF_zero {p : Pl} (h : (planF p).1 = 0) : (planF p).2 = 0 ∧ 1 ≤ p.sec ∧ p.sec ≤ 60 ∧ p.nw ≤ 40 ∧ p.ny ≤ 100 := by
  by_cases e : headF p = true
  · have e2 : planF p = plan2 p := if_pos e
    rw [e2] at h ⊢
    refine ⟨plan2_zero h, ?_⟩
    simp only [headF, inB, Bool.and_eq_true, decide_eq_true_eq] at e
    exact ⟨e.1.1.1.1, e.1.1.1.2, e.1.2, e.2⟩
  · have e2 : planF p = (1, 0) := if_neg e
    rw [e2] at h
    simp at h

set_option maxHeartbeats 1000000 in
theorem toEv19 (op o lie : Int) (w : World) :
    Calls Try.prog 19 #[.agg #[.int .i64 op, .int .i64 o, .int .i64 lie]] w fun e w' => e = .returned (.agg #[.int .i64 op, .int .i64 o, .int .i64 lie]) ∧ Below w.heap.size w w' := by
  go_enter Try.func19, Try.ntmps19
  go_wp2_with fail
  exact bodyPost_ret (v := .agg #[.int .i64 op, .int .i64 o, .int .i64 lie]) (by simp [results, Try.results19, go_sem]) rfl ⟨rfl, bel3 _ _ _ _⟩

set_option maxHeartbeats 1000000 in
theorem ok36 (p : Pl) (wa ya ba : Option Addr) (wc yc bc : Nat) (w : World) (hs : p.small) (h : PlIn 0 w p wa ya ba) :
    Calls Try.prog 36 #[.agg #[.int .i64 p.sec, .slice wa p.nw wc, .slice ya p.ny yc, .slice ba p.nb bc, .int .i64 p.hold]] w fun e w' => e = .returned (.bool (decide ((planF p).1 = 0))) ∧ Below w.heap.size w w' := by
  have H : Hid (PlIn 0 w p wa ya ba) := h
  have HS : Hid p.small := hs
  clear h hs
  go_enter Try.func36, Try.ntmps36
  go_wp2_with fail
  have B0 := bel1 w (.cells #[.int .i64 p.sec, .slice wa p.nw wc, .slice ya p.ny yc, .slice ba p.nb bc, .int .i64 p.hold] 33)
  refine (plan7 p wa ya ba wc yc bc _ HS.out (H.out.mono (Nat.le_refl _) B0 (Nat.le_refl _))).mono ?_
  rintro e w1 ⟨he, hb⟩
  have B1 := B0.trans (hb.mono B0.size)
  clear hb B0
  obtain ⟨d, hdd⟩ : ∃ d, d = (planF p).2 := ⟨_, rfl⟩
  rw [← hdd] at he
  clear hdd
  by_cases hc : (planF p).1 = 0
  · have HD : Hid (decide ((planF p).1 = 0) = true) := decide_eq_true hc
    rw [hc] at he
    clear hc
    subst he
    go_wp2_with fail
    go_ret
    exact ⟨by rw [HD.out]; rfl, B1.alloc B1.size _⟩
  · have HD : Hid (decide ((planF p).1 = 0) = false) := decide_eq_false hc
    obtain ⟨c, hcc⟩ : ∃ c, c = (planF p).1 := ⟨_, rfl⟩
    rw [← hcc] at he hc
    clear hcc
    subst he
    go_wp2_with fail
    go_ret
    exact ⟨by rw [HD.out]; simp [hc], B1.alloc B1.size _⟩

set_option maxHeartbeats 2000000 in
theorem sp18 (p : Pl) (wa ya ba : Option Addr) (wc yc bc : Nat) (op o lie : Int) (w : World) (hs : p.small) (h : PlIn 0 w p wa ya ba) :
    Calls Try.prog 18 #[.agg #[.int .i64 p.sec, .slice wa p.nw wc, .slice ya p.ny yc, .slice ba p.nb bc, .int .i64 p.hold], .agg #[.int .i64 op, .int .i64 o, .int .i64 lie]] w fun e w' => e = .returned (.bool (decide ((planF p).1 = 0) && evF p op o lie)) ∧ Below w.heap.size w w' := by
  have H : Hid (PlIn 0 w p wa ya ba) := h
  have HS : Hid p.small := hs
  clear h hs
  go_enter Try.func18, Try.ntmps18
  go_wp2_with fail
  have B0 := bel2 w (.cells #[.int .i64 p.sec, .slice wa p.nw wc, .slice ya p.ny yc, .slice ba p.nb bc, .int .i64 p.hold] 33) (.cells #[.int .i64 op, .int .i64 o, .int .i64 lie] 50)
  have A0 := (Box.new w 33 #[.int .i64 p.sec, .slice wa p.nw wc, .slice ya p.ny yc, .slice ba p.nb bc, .int .i64 p.hold]).alloc (.cells #[.int .i64 op, .int .i64 o, .int .i64 lie] 50)
  have E0 : Box ((w.alloc (.cells #[.int .i64 p.sec, .slice wa p.nw wc, .slice ya p.ny yc, .slice ba p.nb bc, .int .i64 p.hold] 33)).alloc (.cells #[.int .i64 op, .int .i64 o, .int .i64 lie] 50)) (w.heap.size + 1) 50 #[.int .i64 op, .int .i64 o, .int .i64 lie] := by have := Box.new (w.alloc (.cells #[.int .i64 p.sec, .slice wa p.nw wc, .slice ya p.ny yc, .slice ba p.nb bc, .int .i64 p.hold] 33)) 50 #[.int .i64 op, .int .i64 o, .int .i64 lie]; simpa using this
  refine (ok36 p wa ya ba wc yc bc _ HS.out (H.out.mono (Nat.le_refl _) B0 (Nat.le_refl _))).mono ?_
  rintro e w1 ⟨he, hb⟩
  have S1 : Hid (Below w.heap.size w w1 ∧ Box w1 w.heap.size 33 #[.int .i64 p.sec, .slice wa p.nw wc, .slice ya p.ny yc, .slice ba p.nb bc, .int .i64 p.hold] ∧ Box w1 (w.heap.size + 1) 50 #[.int .i64 op, .int .i64 o, .int .i64 lie]) := ⟨B0.trans (hb.mono B0.size), A0.mono hb (Nat.le_refl _), E0.mono hb (Nat.le_refl _)⟩
  clear hb B0 A0 E0
  by_cases hc : (planF p).1 = 0
  · rw [decide_eq_true hc] at he
    subst he
    obtain ⟨_, g1, g2, g3, g4⟩ := planF_zero hc
    have a0 : w1.cell? ⟨w.heap.size, 0, none⟩ = some (.int .i64 p.sec) := S1.out.2.1.cell 0
    have a1 : w1.cell? ⟨w.heap.size, 1, none⟩ = some (.slice wa p.nw wc) := S1.out.2.1.cell 1
    have a2 : w1.cell? ⟨w.heap.size, 2, none⟩ = some (.slice ya p.ny yc) := S1.out.2.1.cell 2
    have a3 : w1.cell? ⟨w.heap.size, 3, none⟩ = some (.slice ba p.nb bc) := S1.out.2.1.cell 3
    have a4 : w1.cell? ⟨w.heap.size, 4, none⟩ = some (.int .i64 p.hold) := S1.out.2.1.cell 4
    have b0 : w1.cell? ⟨w.heap.size + 1, 0, none⟩ = some (.int .i64 op) := S1.out.2.2.cell 0
    have b1 : w1.cell? ⟨w.heap.size + 1, 1, none⟩ = some (.int .i64 o) := S1.out.2.2.cell 1
    have b2 : w1.cell? ⟨w.heap.size + 1, 2, none⟩ = some (.int .i64 lie) := S1.out.2.2.cell 2
    have za : w.heap.size < w1.heap.size := S1.out.2.1.lt
    have zb : w.heap.size + 1 < w1.heap.size := S1.out.2.2.lt
    go_wp2_with fail
    refine (ev50 p wa ya ba wc yc bc op o lie _ g1 g2 g3 g4).mono ?_
    rintro e w2 ⟨he, hb2⟩
    subst he
    go_wp2_with fail
    go_ret
    exact ⟨by rw [decide_eq_true hc, Bool.true_and]; rfl, S1.out.1.trans (hb2.mono S1.out.1.size)⟩
  · rw [decide_eq_false hc] at he
    subst he
    have a0 : w1.cell? ⟨w.heap.size, 0, none⟩ = some (.int .i64 p.sec) := S1.out.2.1.cell 0
    have a1 : w1.cell? ⟨w.heap.size, 1, none⟩ = some (.slice wa p.nw wc) := S1.out.2.1.cell 1
    have a2 : w1.cell? ⟨w.heap.size, 2, none⟩ = some (.slice ya p.ny yc) := S1.out.2.1.cell 2
    have a3 : w1.cell? ⟨w.heap.size, 3, none⟩ = some (.slice ba p.nb bc) := S1.out.2.1.cell 3
    have a4 : w1.cell? ⟨w.heap.size, 4, none⟩ = some (.int .i64 p.hold) := S1.out.2.1.cell 4
    have b0 : w1.cell? ⟨w.heap.size + 1, 0, none⟩ = some (.int .i64 op) := S1.out.2.2.cell 0
    have b1 : w1.cell? ⟨w.heap.size + 1, 1, none⟩ = some (.int .i64 o) := S1.out.2.2.cell 1
    have b2 : w1.cell? ⟨w.heap.size + 1, 2, none⟩ = some (.int .i64 lie) := S1.out.2.2.cell 2
    have za : w.heap.size < w1.heap.size := S1.out.2.1.lt
    have zb : w.heap.size + 1 < w1.heap.size := S1.out.2.2.lt
    go_wp2_with fail
    go_ret
    exact ⟨by rw [decide_eq_false hc, Bool.false_and]; rfl, S1.out.1⟩

set_option maxHeartbeats 2000000 in
theorem im20 (p : Pl) (wb yb bb : Nat) (lo rr : Nat → Nat) (op o lie : Int) (w : World) (hs : p.small) (h : PlOwn 0 w p wb yb bb lo rr) :
    Calls Try.prog 20 #[.agg #[.int .i64 p.sec, .slice (some ⟨wb, 0, none⟩) p.nw p.nw, .slice (some ⟨yb, 0, none⟩) p.ny p.ny, .slice (some ⟨bb, 0, none⟩) p.nb p.nb, .int .i64 p.hold], .agg #[.int .i64 op, .int .i64 o, .int .i64 lie]] w fun e w' => e = .returned (.bool (decide ((planF p).1 = 0) && evF p op o lie)) ∧ Below w.heap.size w w' := by
  have H : Hid (PlOwn 0 w p wb yb bb lo rr) := h
  have HS : Hid p.small := hs
  clear h hs
  go_enter Try.func20, Try.ntmps20
  go_wp2_with fail
  have B0 := bel2 w (.cells #[.int .i64 p.sec, .slice (some ⟨wb, 0, none⟩) p.nw p.nw, .slice (some ⟨yb, 0, none⟩) p.ny p.ny, .slice (some ⟨bb, 0, none⟩) p.nb p.nb, .int .i64 p.hold] 33) (.cells #[.int .i64 op, .int .i64 o, .int .i64 lie] 50)
  have A0 := (Box.new w 33 #[.int .i64 p.sec, .slice (some ⟨wb, 0, none⟩) p.nw p.nw, .slice (some ⟨yb, 0, none⟩) p.ny p.ny, .slice (some ⟨bb, 0, none⟩) p.nb p.nb, .int .i64 p.hold]).alloc (.cells #[.int .i64 op, .int .i64 o, .int .i64 lie] 50)
  have E0 : Box ((w.alloc (.cells #[.int .i64 p.sec, .slice (some ⟨wb, 0, none⟩) p.nw p.nw, .slice (some ⟨yb, 0, none⟩) p.ny p.ny, .slice (some ⟨bb, 0, none⟩) p.nb p.nb, .int .i64 p.hold] 33)).alloc (.cells #[.int .i64 op, .int .i64 o, .int .i64 lie] 50)) (w.heap.size + 1) 50 #[.int .i64 op, .int .i64 o, .int .i64 lie] := by have := Box.new (w.alloc (.cells #[.int .i64 p.sec, .slice (some ⟨wb, 0, none⟩) p.nw p.nw, .slice (some ⟨yb, 0, none⟩) p.ny p.ny, .slice (some ⟨bb, 0, none⟩) p.nb p.nb, .int .i64 p.hold] 33)) 50 #[.int .i64 op, .int .i64 o, .int .i64 lie]; simpa using this
  refine (planI9 p wb yb bb lo rr _ HS.out (H.out.mono (Nat.le_refl _) B0 (Nat.le_refl _))).mono ?_
  rintro e w1 ⟨he, hb⟩
  have S1 : Hid (Below w.heap.size w w1 ∧ Box w1 w.heap.size 33 #[.int .i64 p.sec, .slice (some ⟨wb, 0, none⟩) p.nw p.nw, .slice (some ⟨yb, 0, none⟩) p.ny p.ny, .slice (some ⟨bb, 0, none⟩) p.nb p.nb, .int .i64 p.hold] ∧ Box w1 (w.heap.size + 1) 50 #[.int .i64 op, .int .i64 o, .int .i64 lie]) := ⟨B0.trans (hb.mono B0.size), A0.mono hb (Nat.le_refl _), E0.mono hb (Nat.le_refl _)⟩
  clear hb B0 A0 E0
  by_cases hc : (planF p).1 = 0
  · obtain ⟨hd, g1, g2, g3, g4⟩ := planF_zero hc
    rw [hc, hd] at he
    subst he
    have a0 : w1.cell? ⟨w.heap.size, 0, none⟩ = some (.int .i64 p.sec) := S1.out.2.1.cell 0
    have a1 : w1.cell? ⟨w.heap.size, 1, none⟩ = some (.slice (some ⟨wb, 0, none⟩) p.nw p.nw) := S1.out.2.1.cell 1
    have a2 : w1.cell? ⟨w.heap.size, 2, none⟩ = some (.slice (some ⟨yb, 0, none⟩) p.ny p.ny) := S1.out.2.1.cell 2
    have a3 : w1.cell? ⟨w.heap.size, 3, none⟩ = some (.slice (some ⟨bb, 0, none⟩) p.nb p.nb) := S1.out.2.1.cell 3
    have a4 : w1.cell? ⟨w.heap.size, 4, none⟩ = some (.int .i64 p.hold) := S1.out.2.1.cell 4
    have b0 : w1.cell? ⟨w.heap.size + 1, 0, none⟩ = some (.int .i64 op) := S1.out.2.2.cell 0
    have b1 : w1.cell? ⟨w.heap.size + 1, 1, none⟩ = some (.int .i64 o) := S1.out.2.2.cell 1
    have b2 : w1.cell? ⟨w.heap.size + 1, 2, none⟩ = some (.int .i64 lie) := S1.out.2.2.cell 2
    have za : w.heap.size < w1.heap.size := S1.out.2.1.lt
    have zb : w.heap.size + 1 < w1.heap.size := S1.out.2.2.lt
    go_wp2_with fail
    refine (ev51 p (some ⟨wb, 0, none⟩) (some ⟨yb, 0, none⟩) (some ⟨bb, 0, none⟩) p.nw p.ny p.nb op o lie _ g1 g2 g3 g4).mono ?_
    rintro e w2 ⟨he, hb2⟩
    subst he
    go_wp2_with fail
    go_ret
    exact ⟨by rw [decide_eq_true hc, Bool.true_and]; rfl, S1.out.1.trans (hb2.mono S1.out.1.size)⟩
  · obtain ⟨c, hcc⟩ : ∃ c, c = (planF p).1 := ⟨_, rfl⟩
    obtain ⟨d, hdd⟩ : ∃ d, d = (planF p).2 := ⟨_, rfl⟩
    have HD : Hid (decide ((planF p).1 = 0) = false) := decide_eq_false hc
    rw [← hcc] at hc
    rw [← hcc, ← hdd] at he
    clear hcc hdd
    subst he
    have a0 : w1.cell? ⟨w.heap.size, 0, none⟩ = some (.int .i64 p.sec) := S1.out.2.1.cell 0
    have a1 : w1.cell? ⟨w.heap.size, 1, none⟩ = some (.slice (some ⟨wb, 0, none⟩) p.nw p.nw) := S1.out.2.1.cell 1
    have a2 : w1.cell? ⟨w.heap.size, 2, none⟩ = some (.slice (some ⟨yb, 0, none⟩) p.ny p.ny) := S1.out.2.1.cell 2
    have a3 : w1.cell? ⟨w.heap.size, 3, none⟩ = some (.slice (some ⟨bb, 0, none⟩) p.nb p.nb) := S1.out.2.1.cell 3
    have a4 : w1.cell? ⟨w.heap.size, 4, none⟩ = some (.int .i64 p.hold) := S1.out.2.1.cell 4
    have b0 : w1.cell? ⟨w.heap.size + 1, 0, none⟩ = some (.int .i64 op) := S1.out.2.2.cell 0
    have b1 : w1.cell? ⟨w.heap.size + 1, 1, none⟩ = some (.int .i64 o) := S1.out.2.2.cell 1
    have b2 : w1.cell? ⟨w.heap.size + 1, 2, none⟩ = some (.int .i64 lie) := S1.out.2.2.cell 2
    have za : w.heap.size < w1.heap.size := S1.out.2.1.lt
    have zb : w.heap.size + 1 < w1.heap.size := S1.out.2.2.lt
    go_wp2_with fail
    go_ret
    exact ⟨by rw [HD.out, Bool.false_and]; rfl, S1.out.1⟩

end Go.Proofs.Ytooebighlohobaa
