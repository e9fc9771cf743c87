import Derived.Test.YtmcaohablpaknaaWn
import Derived.Deep.RegionHeld3
namespace Go.Proofs.Ytmcaohablpaknaa
open Go.RowKit Go.ChangeShapes Go.WideShapes


set_option maxRecDepth 10000 in
set_option maxHeartbeats 8000000 in
theorem reset3 (w0 : World) (c b : Nat) (sec : Int) (a : Option Addr) (n cap : Nat) (K : Nat → Nat → Int) (sa : Option Addr) (sc : Nat) (da : Option Addr) (dc ns : Nat) (S : Nat → Sec) (D : Nat → Bool) (op of dir : Int) (o : Nat) (hof : of = o) (ho : o < ns) (n120 : n ≤ 120) (h60 : ns ≤ 60) (hd : deadB K n D o = true) (w : World) (h : Wk w0 w c b sec a n cap K sa sc da dc ns S D) :
    Calls Try.prog 75 #[.pointer (some ⟨c, 0, none⟩), .agg #[.int .i64 op, .int .i64 of, .int .i64 dir]] w fun e w' => e = .returned (.int .i64 3) ∧ Wk w0 w' c b sec a n cap K sa sc da dc ns S D := by
  subst hof
  obtain ⟨g, rfl, _, zg⟩ := h.st.s.addr (by omega)
  have x4 : w.cell? ⟨c, 4, none⟩ = some (.slice (some ⟨g, 0, none⟩) ns sc) := h.box.cell 4
  have z1 : c < w.heap.size := h.box.lt
  have ho0 : (0 : Int) ≤ (o : Int) := by omega
  have ho1 : (o : Int) < (ns : Int) := by omega
  have HW : Hid (Wk w0 (w.alloc (.cells #[.int .i64 op, .int .i64 (o : Int), .int .i64 dir] 49)) c b sec a n cap K (some ⟨g, 0, none⟩) sc da dc ns S D) := h.new _
  have HX : Hid (Box (w.alloc (.cells #[.int .i64 op, .int .i64 (o : Int), .int .i64 dir] 49)) w.heap.size 49 #[.int .i64 op, .int .i64 (o : Int), .int .i64 dir]) := Box.new w 49 _
  clear h
  go_enter Try.func75, Try.ntmps75
  go_wp2_with fail
  go_quiet (fail)
  go_wp2_with fail
  refine (deadI c b sec a n cap K true (some ⟨g, 0, none⟩) sc da dc ns S D o _ n120 (by omega) (HW.out.drewN _).ct).mono ?_
  rintro e w2 ⟨rfl, rfl⟩
  rw [hd]
  go_wp2_with fail
  go_ret
  exact ⟨rfl, HW.out.drewN _⟩

set_option maxRecDepth 10000 in
set_option maxHeartbeats 8000000 in
theorem reset4 (w0 : World) (c b : Nat) (sec : Int) (a : Option Addr) (n cap : Nat) (K : Nat → Nat → Int) (sa : Option Addr) (sc : Nat) (da : Option Addr) (dc ns : Nat) (S : Nat → Sec) (D : Nat → Bool) (op of dir : Int) (o : Nat) (hof : of = o) (ho : o < ns) (n120 : n ≤ 120) (h60 : ns ≤ 60) (hd : deadB K n D o = false) (hl : (S o).last = 1) (w : World) (h : Wk w0 w c b sec a n cap K sa sc da dc ns S D) :
    Calls Try.prog 75 #[.pointer (some ⟨c, 0, none⟩), .agg #[.int .i64 op, .int .i64 of, .int .i64 dir]] w fun e w' => e = .returned (.int .i64 4) ∧ Wk w0 w' c b sec a n cap K sa sc da dc ns S D := by
  subst hof
  obtain ⟨g, rfl, _, zg⟩ := h.st.s.addr (by omega)
  have x4 : w.cell? ⟨c, 4, none⟩ = some (.slice (some ⟨g, 0, none⟩) ns sc) := h.box.cell 4
  have z1 : c < w.heap.size := h.box.lt
  have ho0 : (0 : Int) ≤ (o : Int) := by omega
  have ho1 : (o : Int) < (ns : Int) := by omega
  have HW : Hid (Wk w0 (w.alloc (.cells #[.int .i64 op, .int .i64 (o : Int), .int .i64 dir] 49)) c b sec a n cap K (some ⟨g, 0, none⟩) sc da dc ns S D) := h.new _
  have HX : Hid (Box (w.alloc (.cells #[.int .i64 op, .int .i64 (o : Int), .int .i64 dir] 49)) w.heap.size 49 #[.int .i64 op, .int .i64 (o : Int), .int .i64 dir]) := Box.new w 49 _
  clear h
  go_enter Try.func75, Try.ntmps75
  go_wp2_with fail
  go_quiet (fail)
  go_wp2_with fail
  refine (deadI c b sec a n cap K true (some ⟨g, 0, none⟩) sc da dc ns S D o _ n120 (by omega) (HW.out.drewN _).ct).mono ?_
  rintro e w2 ⟨rfl, rfl⟩
  rw [hd]
  obtain ⟨c0, c1, c2, c3, c4⟩ := HW.out.secs ho
  rw [hl] at c4
  go_wp2_with fail
  go_ret
  exact ⟨rfl, HW.out.drewN _⟩

set_option maxRecDepth 10000 in
set_option maxHeartbeats 8000000 in
theorem reset0 (w0 : World) (c b : Nat) (sec : Int) (a : Option Addr) (n cap : Nat) (K : Nat → Nat → Int) (sa : Option Addr) (sc : Nat) (da : Option Addr) (dc ns : Nat) (S : Nat → Sec) (D : Nat → Bool) (op of dir : Int) (o : Nat) (hof : of = o) (ho : o < ns) (n120 : n ≤ 120) (h60 : ns ≤ 60) (hd : deadB K n D o = false) (hl : ¬ (S o).last = 1) (w : World) (h : Wk w0 w c b sec a n cap K sa sc da dc ns S D) :
    Calls Try.prog 75 #[.pointer (some ⟨c, 0, none⟩), .agg #[.int .i64 op, .int .i64 of, .int .i64 dir]] w fun e w' => e = .returned (.int .i64 0) ∧ Wk w0 w' c b sec a n cap K sa sc da dc ns (updS S o ⟨0, 0, false, true, 0⟩) D := by
  subst hof
  obtain ⟨g, rfl, _, zg⟩ := h.st.s.addr (by omega)
  have x4 : w.cell? ⟨c, 4, none⟩ = some (.slice (some ⟨g, 0, none⟩) ns sc) := h.box.cell 4
  have z1 : c < w.heap.size := h.box.lt
  have ho0 : (0 : Int) ≤ (o : Int) := by omega
  have ho1 : (o : Int) < (ns : Int) := by omega
  have HW : Hid (Wk w0 (w.alloc (.cells #[.int .i64 op, .int .i64 (o : Int), .int .i64 dir] 49)) c b sec a n cap K (some ⟨g, 0, none⟩) sc da dc ns S D) := h.new _
  have HX : Hid (Box (w.alloc (.cells #[.int .i64 op, .int .i64 (o : Int), .int .i64 dir] 49)) w.heap.size 49 #[.int .i64 op, .int .i64 (o : Int), .int .i64 dir]) := Box.new w 49 _
  clear h
  go_enter Try.func75, Try.ntmps75
  go_wp2_with fail
  go_quiet (fail)
  go_wp2_with fail
  refine (deadI c b sec a n cap K true (some ⟨g, 0, none⟩) sc da dc ns S D o _ n120 (by omega) (HW.out.drewN _).ct).mono ?_
  rintro e w2 ⟨rfl, rfl⟩
  rw [hd]
  obtain ⟨c0, c1, c2, c3, c4⟩ := HW.out.secs ho
  have f0 := HW.out.st.s.free (o * 5)
  have f1 := HW.out.st.s.free (o * 5 + 1)
  have f2 := HW.out.st.s.free (o * 5 + 2)
  have f3 := HW.out.st.s.free (o * 5 + 3)
  have f4 := HW.out.st.s.free (o * 5 + 4)
  have hl2 : ((S o).last == 1) = false := by simp [hl]
  have H5 : Hid (∀ W, Wk w0 W c b sec a n cap K (some ⟨g, 0, none⟩) sc da dc ns S D → Wk w0 (((((W.setCell ⟨g, o * 5, none⟩ (.int .i64 0)).setCell ⟨g, o * 5 + 1, none⟩ (.int .i64 0)).setCell ⟨g, o * 5 + 2, none⟩ (.bool false)).setCell ⟨g, o * 5 + 3, none⟩ (.bool true)).setCell ⟨g, o * 5 + 4, none⟩ (.int .i64 0)) c b sec a n cap K (some ⟨g, 0, none⟩) sc da dc ns (updS S o ⟨0, 0, false, true, 0⟩) D) := fun W h => by
    have p0 := h.put ho (j := 0) (by omega) (u := .int .i64 0) ⟨0, (S o).count, (S o).lost, (S o).sweep, (S o).last⟩ fun j' hj' => by
      rcases (show j' = 0 ∨ j' = 1 ∨ j' = 2 ∨ j' = 3 ∨ j' = 4 by omega) with rfl | rfl | rfl | rfl | rfl <;> rfl
    have p1 := p0.put ho (j := 1) (by omega) (u := .int .i64 0) ⟨0, 0, (S o).lost, (S o).sweep, (S o).last⟩ fun j' hj' => by
      rw [updS_same]
      rcases (show j' = 0 ∨ j' = 1 ∨ j' = 2 ∨ j' = 3 ∨ j' = 4 by omega) with rfl | rfl | rfl | rfl | rfl <;> rfl
    have p2 := p1.put ho (j := 2) (by omega) (u := .bool false) ⟨0, 0, false, (S o).sweep, (S o).last⟩ fun j' hj' => by
      rw [updS_same]
      rcases (show j' = 0 ∨ j' = 1 ∨ j' = 2 ∨ j' = 3 ∨ j' = 4 by omega) with rfl | rfl | rfl | rfl | rfl <;> rfl
    have p3 := p2.put ho (j := 3) (by omega) (u := .bool true) ⟨0, 0, false, true, (S o).last⟩ fun j' hj' => by
      rw [updS_same]
      rcases (show j' = 0 ∨ j' = 1 ∨ j' = 2 ∨ j' = 3 ∨ j' = 4 by omega) with rfl | rfl | rfl | rfl | rfl <;> rfl
    have p4 := p3.put ho (j := 4) (by omega) (u := .int .i64 0) ⟨0, 0, false, true, 0⟩ fun j' hj' => by
      rw [updS_same]
      rcases (show j' = 0 ∨ j' = 1 ∨ j' = 2 ∨ j' = 3 ∨ j' = 4 by omega) with rfl | rfl | rfl | rfl | rfl <;> rfl
    rwa [updS_two, updS_two, updS_two, updS_two] at p4
  have HWd : Hid (∀ k, Wk w0 ((w.alloc (.cells #[.int .i64 op, .int .i64 (o : Int), .int .i64 dir] 49)).drewN k) c b sec a n cap K (some ⟨g, 0, none⟩) sc da dc ns S D) := fun k => HW.out.drewN k
  clear hl
  go_wp2_with fail
  go_ret
  refine ⟨rfl, ?_⟩
  first | exact H5.out _ (HWd.out _) | trace_state

/-- the first k sections told anew -/
def tellN (K : Nat → Nat → Int) (n : Nat) (D : Nat → Bool) (S : Nat → Sec) (k : Nat) : Nat → Sec := fun i => if i < k then ⟨toldF (deadB K n D i) (S i), (S i).count, (S i).lost, (S i).sweep, (S i).last⟩ else S i
theorem tellN_at (K : Nat → Nat → Int) (n : Nat) (D : Nat → Bool) (S : Nat → Sec) (k : Nat) : tellN K n D S k k = S k := by simp [tellN]
theorem tellN_succ (K : Nat → Nat → Int) (n : Nat) (D : Nat → Bool) (S : Nat → Sec) (k : Nat) : updS (tellN K n D S k) k ⟨toldF (deadB K n D k) (S k), (S k).count, (S k).lost, (S k).sweep, (S k).last⟩ = tellN K n D S (k + 1) := by
  funext i
  simp only [updS, tellN]
  by_cases e : i = k
  · subst e
    simp
  · rw [if_neg e]
    by_cases h : i < k
    · rw [if_pos h, if_pos (by omega)]
    · rw [if_neg h, if_neg (by omega)]
theorem tellN_zero (K : Nat → Nat → Int) (n : Nat) (D : Nat → Bool) (S : Nat → Sec) : tellN K n D S 0 = S := by
  funext i
  simp [tellN]

set_option maxRecDepth 10000 in
set_option maxHeartbeats 8000000 in
theorem tellI (w0 : World) (c b : Nat) (sec : Int) (a : Option Addr) (n cap : Nat) (K : Nat → Nat → Int) (sa : Option Addr) (sc : Nat) (da : Option Addr) (dc ns : Nat) (S : Nat → Sec) (D : Nat → Bool) (n120 : n ≤ 120) (h60 : ns ≤ 60) (w : World) (h : Wk w0 w c b sec a n cap K sa sc da dc ns S D) :
    Calls Try.prog 69 #[.pointer (some ⟨c, 0, none⟩)] w fun e w' => e = .returned (.tuple #[]) ∧ Wk w0 w' c b sec a n cap K sa sc da dc ns (tellN K n D S ns) D := by
  have x4 : w.cell? ⟨c, 4, none⟩ = some (.slice sa ns sc) := h.box.cell 4
  have HW : Hid (Wk w0 w c b sec a n cap K sa sc da dc ns S D) := h
  clear h
  go_enter Try.func69, Try.ntmps69
  go_wp2_with fail
  go_loopw [9] (fun i wr => ∃ k : Nat, k ≤ ns ∧ i = .int .i64 k ∧ Hid (Wk w0 wr c b sec a n cap K sa sc da dc ns (tellN K n D S k) D)) (fun i _ => ns - (intOf i).toNat)
  case atStart => exact ⟨0, Nat.zero_le _, rfl, by rw [tellN_zero]; exact HW⟩
  case round =>
    obtain ⟨k, hk, rfl, HR⟩ := hrel
    by_cases hlt : k < ns
    · obtain ⟨g, rfl, _, zg⟩ := HR.out.st.s.addr (by omega)
      have y4 : wr.cell? ⟨c, 4, none⟩ = some (.slice (some ⟨g, 0, none⟩) ns sc) := HR.out.box.cell 4
      have hk0 : (0 : Int) ≤ (k : Int) := by omega
      have hk1 : (k : Int) < (ns : Int) := by omega
      have HD : Hid (Wk w0 wr.drew c b sec a n cap K (some ⟨g, 0, none⟩) sc da dc ns (tellN K n D S k) D) := HR.out.drew
      obtain ⟨t, ht⟩ : ∃ t, Hid (toldF (deadB K n D k) (S k) = t) := ⟨_, rfl⟩
      have HTS : Hid (∀ W, Wk w0 W c b sec a n cap K (some ⟨g, 0, none⟩) sc da dc ns (tellN K n D S k) D → Calls Try.prog 70 #[.pointer (some ⟨c, 0, none⟩), .int .i64 k] W fun e w' => e = .returned (.int .i64 t) ∧ Below W.heap.size W w') := fun W hW => by
        have := toldI c b sec a n cap K true (some ⟨g, 0, none⟩) sc da dc ns (tellN K n D S k) D k W n120 h60 hlt hW.ct
        rw [tellN_at, ht.out] at this
        exact this
      have HST : Hid (∀ W, Wk w0 W c b sec a n cap K (some ⟨g, 0, none⟩) sc da dc ns (tellN K n D S k) D → Wk w0 (W.setCell ⟨g, k * 5, none⟩ (.int .i64 t)) c b sec a n cap K (some ⟨g, 0, none⟩) sc da dc ns (tellN K n D S (k + 1)) D) := fun W hW => by
        have := hW.put hlt (j := 0) (by omega) (u := .int .i64 t) ⟨t, (S k).count, (S k).lost, (S k).sweep, (S k).last⟩ fun j' hj' => by
          rw [tellN_at]
          rcases (show j' = 0 ∨ j' = 1 ∨ j' = 2 ∨ j' = 3 ∨ j' = 4 by omega) with rfl | rfl | rfl | rfl | rfl <;> rfl
        rw [← ht.out, tellN_succ] at this
        rw [← ht.out]
        exact this
      clear x4
      go_wp2_with fail
      go_region_held3 (fun w' => w'.cell? ⟨c, 4, none⟩ = some (.slice (some ⟨g, 0, none⟩) ns sc)) (go_keep) (first
        | (go_at_call 70; refine (HTS.out _ HD.out).mono ?_; rintro e w2 ⟨rfl, hb2⟩; have HW2 : Hid (Wk w0 w2 c b sec a n cap K (some ⟨g, 0, none⟩) sc da dc ns (tellN K n D S k) D) := HD.out.mono hb2 (Nat.le_refl _); clear hb2; have m4 : w2.cell? ⟨c, 4, none⟩ = some (.slice (some ⟨g, 0, none⟩) ns sc) := HW2.out.box.cell 4; have HW3 : Hid (Wk w0 (w2.setCell ⟨g, k * 5, none⟩ (.int .i64 t)) c b sec a n cap K (some ⟨g, 0, none⟩) sc da dc ns (tellN K n D S (k + 1)) D) := HST.out _ HW2.out; have m5 : (w2.setCell ⟨g, k * 5, none⟩ (.int .i64 t)).cell? ⟨c, 4, none⟩ = some (.slice (some ⟨g, 0, none⟩) ns sc) := HW3.out.box.cell 4; have m0 := (HW2.out.secs hlt).1; have f0 := HW2.out.st.s.free (k * 5)))
      all_goals
        go_wp2_with fail
        go_roundw
        case rel => exact ⟨k + 1, by omega, by go_num, HW3⟩
        case measure => simp [intOf]; omega
    · obtain rfl : k = ns := by omega
      go_wp2_with fail
      (try simp only [Exit.inBlock, Exit.then])
      exact bodyPost_void (by first | exact .inl rfl | exact .inr rfl) (by kernel_rfl) rfl ⟨rfl, HR.out⟩

end Go.Proofs.Ytmcaohablpaknaa
