import Derived.Test.YtmcaohablpaknaaWk
namespace Go.Proofs.Ytmcaohablpaknaa
open Go.RowKit Go.ChangeShapes Go.WideShapes


set_option maxRecDepth 10000 in
set_option maxHeartbeats 8000000 in
theorem countP (w0 : World) (c b : Nat) (sec : Int) (a : Option Addr) (n cap : Nat) (K : Nat → Nat → Int) (sa : Option Addr) (sc : Nat) (da : Option Addr) (dc ns : Nat) (S : Nat → Sec) (D : Nat → Bool) (s : Int) (w : World) (hs1 : -1 ≤ s) (hs2 : s < ns) (h60 : ns ≤ 60) (hc : ∀ i, i < ns → -1000000 ≤ (S i).count ∧ (S i).count ≤ 1000000) (h : Wk w0 w c b sec a n cap K sa sc da dc ns S D) :
    Calls Try.prog 78 #[.pointer (some ⟨c, 0, none⟩), .int .i64 s, .int .i64 1] w fun e w' => e = .returned (.tuple #[]) ∧ Wk w0 w' c b sec a n cap K sa sc da dc ns (addF S s 1) D := by
  by_cases hs : s < 0
  · obtain rfl : s = -1 := by omega
    have HW : Hid (Wk w0 w c b sec a n cap K sa sc da dc ns (addF S (-1) 1) D) := by
      show Wk _ _ _ _ _ _ _ _ _ _ _ _ _ _ _ _
      rw [addF_out S _ hs]
      exact h
    clear h hs
    go_enter Try.func78, Try.ntmps78
    go_wp2_with fail
    (try simp only [Exit.inBlock, Exit.then])
    exact bodyPost_void (by first | exact .inl rfl | exact .inr rfl) (by kernel_rfl) rfl ⟨rfl, HW.out⟩
  · obtain ⟨i, rfl⟩ : ∃ i : Nat, s = i := ⟨s.toNat, by omega⟩
    have hi : i < ns := by omega
    obtain ⟨hr1, hr2⟩ := hc i hi
    clear hc
    obtain ⟨g, rfl, _, _⟩ := h.st.s.addr (by omega)
    have x4 : w.cell? ⟨c, 4, none⟩ = some (.slice (some ⟨g, 0, none⟩) ns sc) := h.box.cell 4
    obtain ⟨c0, c1, c2, c3, c4⟩ := h.secs hi
    have f1 := h.st.s.free (i * 5 + 1)
    have f2 := h.st.s.free (i * 5 + 2)
    have f3 := h.st.s.free (i * 5 + 3)
    have f4 := h.st.s.free (i * 5 + 4)
    have hi1 : (i : Int) < (ns : Int) := by omega
    have hi0 : (0 : Int) ≤ (i : Int) := by omega
    have hne : ((i : Int) == -1) = false := by simp
    obtain ⟨x, hx⟩ : ∃ x, Hid (S i = x) := ⟨_, rfl⟩
    rw [hx.out] at c0 c1 c2 c3 c4 hr1 hr2
    obtain ⟨x0, xc, xl, xs, xa⟩ := x
    have hr1 : -1000000 ≤ xc := hr1
    have hr2 : xc ≤ 1000000 := hr2
    have HA : Hid (addF S i 1 = updS S i (addSec ⟨x0, xc, xl, xs, xa⟩ 1)) := by
      show addF S i 1 = _
      rw [addF_in, hx.out]
    have HW : Hid (Wk w0 w c b sec a n cap K (some ⟨g, 0, none⟩) sc da dc ns S D) := h
    have H4 : Hid (∀ W k l s z, Wk w0 W c b sec a n cap K (some ⟨g, 0, none⟩) sc da dc ns (updS S i ⟨x0, k, l, s, z⟩) D → Wk w0 (W.setCell ⟨g, i * 5 + 4, none⟩ (.int .i64 1)) c b sec a n cap K (some ⟨g, 0, none⟩) sc da dc ns (updS S i ⟨x0, k, l, s, 1⟩) D) := fun W k l s z h => by
      have := h.put hi (j := 4) (by omega) (u := .int .i64 1) ⟨x0, k, l, s, 1⟩ fun j' hj' => by
        rw [updS_same]
        rcases (show j' = 0 ∨ j' = 1 ∨ j' = 2 ∨ j' = 3 ∨ j' = 4 by omega) with rfl | rfl | rfl | rfl | rfl <;> rfl
      rwa [updS_two] at this
    have H1 : Hid (∀ W k k' l s z, Wk w0 W c b sec a n cap K (some ⟨g, 0, none⟩) sc da dc ns (updS S i ⟨x0, k, l, s, z⟩) D → Wk w0 (W.setCell ⟨g, i * 5 + 1, none⟩ (.int .i64 k')) c b sec a n cap K (some ⟨g, 0, none⟩) sc da dc ns (updS S i ⟨x0, k', l, s, z⟩) D) := fun W k k' l s z h => by
      have := h.put hi (j := 1) (by omega) (u := .int .i64 k') ⟨x0, k', l, s, z⟩ fun j' hj' => by
        rw [updS_same]
        rcases (show j' = 0 ∨ j' = 1 ∨ j' = 2 ∨ j' = 3 ∨ j' = 4 by omega) with rfl | rfl | rfl | rfl | rfl <;> rfl
      rwa [updS_two] at this
    have H2 : Hid (∀ W k l s z, Wk w0 W c b sec a n cap K (some ⟨g, 0, none⟩) sc da dc ns (updS S i ⟨x0, k, l, s, z⟩) D → Wk w0 (W.setCell ⟨g, i * 5 + 2, none⟩ (.bool true)) c b sec a n cap K (some ⟨g, 0, none⟩) sc da dc ns (updS S i ⟨x0, k, true, s, z⟩) D) := fun W k l s z h => by
      have := h.put hi (j := 2) (by omega) (u := .bool true) ⟨x0, k, true, s, z⟩ fun j' hj' => by
        rw [updS_same]
        rcases (show j' = 0 ∨ j' = 1 ∨ j' = 2 ∨ j' = 3 ∨ j' = 4 by omega) with rfl | rfl | rfl | rfl | rfl <;> rfl
      rwa [updS_two] at this
    have H3 : Hid (∀ W k l s z, Wk w0 W c b sec a n cap K (some ⟨g, 0, none⟩) sc da dc ns (updS S i ⟨x0, k, l, s, z⟩) D → Wk w0 (W.setCell ⟨g, i * 5 + 3, none⟩ (.bool false)) c b sec a n cap K (some ⟨g, 0, none⟩) sc da dc ns (updS S i ⟨x0, k, l, false, z⟩) D) := fun W k l s z h => by
      have := h.put hi (j := 3) (by omega) (u := .bool false) ⟨x0, k, l, false, z⟩ fun j' hj' => by
        rw [updS_same]
        rcases (show j' = 0 ∨ j' = 1 ∨ j' = 2 ∨ j' = 3 ∨ j' = 4 by omega) with rfl | rfl | rfl | rfl | rfl <;> rfl
      rwa [updS_two] at this
    have H0 : Hid (Wk w0 w c b sec a n cap K (some ⟨g, 0, none⟩) sc da dc ns (updS S i ⟨x0, xc, xl, xs, xa⟩) D) := by
      show Wk _ _ _ _ _ _ _ _ _ _ _ _ _ _ _ _
      rw [← hx.out, updS_id]
      exact h
    clear h HW hx c0
    by_cases hr : xc + 1 ≤ 1000000
    · by_cases hn : xc + 1 < 0
      · have hz : ((xc + 1) == 0) = false := by simp; omega
        have HF : Hid (addSec ⟨x0, xc, xl, xs, xa⟩ 1 = ⟨x0, xc + 1, true, xs, 1⟩) := by
          show addSec _ _ = _
          simp only [addSec]
          rw [if_pos (by omega)]; (first | (simp; done) | (simp; omega))
        go_enter Try.func78, Try.ntmps78
        go_wp2_with (first | (go_at_call 40; refine (withinT _ _ _ _ (by omega)).mono ?_; rintro e w2 ⟨rfl, rfl⟩) | (go_at_call 40; refine (withinF _ _ _ _ (by omega)).mono ?_; rintro e w2 ⟨rfl, rfl⟩))
        (try simp only [Exit.inBlock, Exit.then])
        refine bodyPost_void (by first | exact .inl rfl | exact .inr rfl) (by kernel_rfl) rfl ⟨rfl, ?_⟩
        rw [HA.out, HF.out]
        exact H2.out _ _ _ _ _ (H4.out _ _ _ _ _ (H1.out _ _ _ _ _ _ H0.out))
      · by_cases hz : xc + 1 = 0
        · obtain rfl : xc = -1 := by omega
          have HF : Hid (addSec ⟨x0, -1, xl, xs, xa⟩ 1 = ⟨x0, 0, xl, xs, 1⟩) := by
            show addSec _ _ = _
            simp only [addSec]
            rw [if_pos (by omega)]; (first | (simp; done) | (simp; omega))
          go_enter Try.func78, Try.ntmps78
          go_wp2_with (first | (go_at_call 40; refine (withinT _ _ _ _ (by omega)).mono ?_; rintro e w2 ⟨rfl, rfl⟩) | (go_at_call 40; refine (withinF _ _ _ _ (by omega)).mono ?_; rintro e w2 ⟨rfl, rfl⟩))
          (try simp only [Exit.inBlock, Exit.then])
          refine bodyPost_void (by first | exact .inl rfl | exact .inr rfl) (by kernel_rfl) rfl ⟨rfl, ?_⟩
          rw [HA.out, HF.out]
          exact H4.out _ _ _ _ _ (H1.out _ _ _ _ _ _ H0.out)
        · have hz2 : ((xc + 1) == 0) = false := by simp; omega
          have HF : Hid (addSec ⟨x0, xc, xl, xs, xa⟩ 1 = ⟨x0, xc + 1, xl, xs, 1⟩) := by
            show addSec _ _ = _
            simp only [addSec]
            rw [if_pos (by omega)]; (first | (simp; done) | (simp; omega))
          go_enter Try.func78, Try.ntmps78
          go_wp2_with (first | (go_at_call 40; refine (withinT _ _ _ _ (by omega)).mono ?_; rintro e w2 ⟨rfl, rfl⟩) | (go_at_call 40; refine (withinF _ _ _ _ (by omega)).mono ?_; rintro e w2 ⟨rfl, rfl⟩))
          (try simp only [Exit.inBlock, Exit.then])
          refine bodyPost_void (by first | exact .inl rfl | exact .inr rfl) (by kernel_rfl) rfl ⟨rfl, ?_⟩
          rw [HA.out, HF.out]
          exact H4.out _ _ _ _ _ (H1.out _ _ _ _ _ _ H0.out)
    · obtain rfl : xc = 1000000 := by omega
      have HF : Hid (addSec ⟨x0, 1000000, xl, xs, xa⟩ 1 = ⟨x0, 1000000, xl, xs, 1⟩) := by
        show addSec _ _ = _
        simp only [addSec]
        rw [if_neg (by omega)]; simp
      go_enter Try.func78, Try.ntmps78
      go_wp2_with (first | (go_at_call 40; refine (withinT _ _ _ _ (by omega)).mono ?_; rintro e w2 ⟨rfl, rfl⟩) | (go_at_call 40; refine (withinF _ _ _ _ (by omega)).mono ?_; rintro e w2 ⟨rfl, rfl⟩))
      (try simp only [Exit.inBlock, Exit.then])
      refine bodyPost_void (by first | exact .inl rfl | exact .inr rfl) (by kernel_rfl) rfl ⟨rfl, ?_⟩
      rw [HA.out, HF.out]
      exact H4.out _ _ _ _ _ H0.out

set_option maxRecDepth 10000 in
set_option maxHeartbeats 8000000 in
theorem countM (w0 : World) (c b : Nat) (sec : Int) (a : Option Addr) (n cap : Nat) (K : Nat → Nat → Int) (sa : Option Addr) (sc : Nat) (da : Option Addr) (dc ns : Nat) (S : Nat → Sec) (D : Nat → Bool) (s : Int) (w : World) (hs1 : -1 ≤ s) (hs2 : s < ns) (h60 : ns ≤ 60) (hc : ∀ i, i < ns → -1000000 ≤ (S i).count ∧ (S i).count ≤ 1000000) (h : Wk w0 w c b sec a n cap K sa sc da dc ns S D) :
    Calls Try.prog 78 #[.pointer (some ⟨c, 0, none⟩), .int .i64 s, .int .i64 (-1)] w fun e w' => e = .returned (.tuple #[]) ∧ Wk w0 w' c b sec a n cap K sa sc da dc ns (addF S s (-1)) D := by
  by_cases hs : s < 0
  · obtain rfl : s = -1 := by omega
    have HW : Hid (Wk w0 w c b sec a n cap K sa sc da dc ns (addF S (-1) (-1)) D) := by
      show Wk _ _ _ _ _ _ _ _ _ _ _ _ _ _ _ _
      rw [addF_out S _ hs]
      exact h
    clear h hs
    go_enter Try.func78, Try.ntmps78
    go_wp2_with fail
    (try simp only [Exit.inBlock, Exit.then])
    exact bodyPost_void (by first | exact .inl rfl | exact .inr rfl) (by kernel_rfl) rfl ⟨rfl, HW.out⟩
  · obtain ⟨i, rfl⟩ : ∃ i : Nat, s = i := ⟨s.toNat, by omega⟩
    have hi : i < ns := by omega
    obtain ⟨hr1, hr2⟩ := hc i hi
    clear hc
    obtain ⟨g, rfl, _, _⟩ := h.st.s.addr (by omega)
    have x4 : w.cell? ⟨c, 4, none⟩ = some (.slice (some ⟨g, 0, none⟩) ns sc) := h.box.cell 4
    obtain ⟨c0, c1, c2, c3, c4⟩ := h.secs hi
    have f1 := h.st.s.free (i * 5 + 1)
    have f2 := h.st.s.free (i * 5 + 2)
    have f3 := h.st.s.free (i * 5 + 3)
    have f4 := h.st.s.free (i * 5 + 4)
    have hi1 : (i : Int) < (ns : Int) := by omega
    have hi0 : (0 : Int) ≤ (i : Int) := by omega
    have hne : ((i : Int) == -1) = false := by simp
    obtain ⟨x, hx⟩ : ∃ x, Hid (S i = x) := ⟨_, rfl⟩
    rw [hx.out] at c0 c1 c2 c3 c4 hr1 hr2
    obtain ⟨x0, xc, xl, xs, xa⟩ := x
    have hr1 : -1000000 ≤ xc := hr1
    have hr2 : xc ≤ 1000000 := hr2
    have HA : Hid (addF S i (-1) = updS S i (addSec ⟨x0, xc, xl, xs, xa⟩ (-1))) := by
      show addF S i (-1) = _
      rw [addF_in, hx.out]
    have HW : Hid (Wk w0 w c b sec a n cap K (some ⟨g, 0, none⟩) sc da dc ns S D) := h
    have H4 : Hid (∀ W k l s z, Wk w0 W c b sec a n cap K (some ⟨g, 0, none⟩) sc da dc ns (updS S i ⟨x0, k, l, s, z⟩) D → Wk w0 (W.setCell ⟨g, i * 5 + 4, none⟩ (.int .i64 (-1))) c b sec a n cap K (some ⟨g, 0, none⟩) sc da dc ns (updS S i ⟨x0, k, l, s, (-1)⟩) D) := fun W k l s z h => by
      have := h.put hi (j := 4) (by omega) (u := .int .i64 (-1)) ⟨x0, k, l, s, (-1)⟩ fun j' hj' => by
        rw [updS_same]
        rcases (show j' = 0 ∨ j' = 1 ∨ j' = 2 ∨ j' = 3 ∨ j' = 4 by omega) with rfl | rfl | rfl | rfl | rfl <;> rfl
      rwa [updS_two] at this
    have H1 : Hid (∀ W k k' l s z, Wk w0 W c b sec a n cap K (some ⟨g, 0, none⟩) sc da dc ns (updS S i ⟨x0, k, l, s, z⟩) D → Wk w0 (W.setCell ⟨g, i * 5 + 1, none⟩ (.int .i64 k')) c b sec a n cap K (some ⟨g, 0, none⟩) sc da dc ns (updS S i ⟨x0, k', l, s, z⟩) D) := fun W k k' l s z h => by
      have := h.put hi (j := 1) (by omega) (u := .int .i64 k') ⟨x0, k', l, s, z⟩ fun j' hj' => by
        rw [updS_same]
        rcases (show j' = 0 ∨ j' = 1 ∨ j' = 2 ∨ j' = 3 ∨ j' = 4 by omega) with rfl | rfl | rfl | rfl | rfl <;> rfl
      rwa [updS_two] at this
    have H2 : Hid (∀ W k l s z, Wk w0 W c b sec a n cap K (some ⟨g, 0, none⟩) sc da dc ns (updS S i ⟨x0, k, l, s, z⟩) D → Wk w0 (W.setCell ⟨g, i * 5 + 2, none⟩ (.bool true)) c b sec a n cap K (some ⟨g, 0, none⟩) sc da dc ns (updS S i ⟨x0, k, true, s, z⟩) D) := fun W k l s z h => by
      have := h.put hi (j := 2) (by omega) (u := .bool true) ⟨x0, k, true, s, z⟩ fun j' hj' => by
        rw [updS_same]
        rcases (show j' = 0 ∨ j' = 1 ∨ j' = 2 ∨ j' = 3 ∨ j' = 4 by omega) with rfl | rfl | rfl | rfl | rfl <;> rfl
      rwa [updS_two] at this
    have H3 : Hid (∀ W k l s z, Wk w0 W c b sec a n cap K (some ⟨g, 0, none⟩) sc da dc ns (updS S i ⟨x0, k, l, s, z⟩) D → Wk w0 (W.setCell ⟨g, i * 5 + 3, none⟩ (.bool false)) c b sec a n cap K (some ⟨g, 0, none⟩) sc da dc ns (updS S i ⟨x0, k, l, false, z⟩) D) := fun W k l s z h => by
      have := h.put hi (j := 3) (by omega) (u := .bool false) ⟨x0, k, l, false, z⟩ fun j' hj' => by
        rw [updS_same]
        rcases (show j' = 0 ∨ j' = 1 ∨ j' = 2 ∨ j' = 3 ∨ j' = 4 by omega) with rfl | rfl | rfl | rfl | rfl <;> rfl
      rwa [updS_two] at this
    have H0 : Hid (Wk w0 w c b sec a n cap K (some ⟨g, 0, none⟩) sc da dc ns (updS S i ⟨x0, xc, xl, xs, xa⟩) D) := by
      show Wk _ _ _ _ _ _ _ _ _ _ _ _ _ _ _ _
      rw [← hx.out, updS_id]
      exact h
    clear h HW hx c0
    by_cases hr : -1000000 ≤ xc + -1
    · by_cases hn : xc + -1 < 0
      · have hz : ((xc + -1) == 0) = false := by simp; omega
        have HF : Hid (addSec ⟨x0, xc, xl, xs, xa⟩ (-1) = ⟨x0, xc + -1, true, xs, -1⟩) := by
          show addSec _ _ = _
          simp only [addSec]
          rw [if_pos (by omega)]; (first | (simp; done) | (simp; omega))
        go_enter Try.func78, Try.ntmps78
        go_wp2_with (first | (go_at_call 40; refine (withinT _ _ _ _ (by omega)).mono ?_; rintro e w2 ⟨rfl, rfl⟩) | (go_at_call 40; refine (withinF _ _ _ _ (by omega)).mono ?_; rintro e w2 ⟨rfl, rfl⟩))
        (try simp only [Exit.inBlock, Exit.then])
        refine bodyPost_void (by first | exact .inl rfl | exact .inr rfl) (by kernel_rfl) rfl ⟨rfl, ?_⟩
        rw [HA.out, HF.out]
        exact H2.out _ _ _ _ _ (H4.out _ _ _ _ _ (H1.out _ _ _ _ _ _ H0.out))
      · by_cases hz : xc + -1 = 0
        · obtain rfl : xc = 1 := by omega
          have HF : Hid (addSec ⟨x0, 1, xl, xs, xa⟩ (-1) = ⟨x0, 0, xl, false, -1⟩) := by
            show addSec _ _ = _
            simp only [addSec]
            rw [if_pos (by omega)]; (first | (simp; done) | (simp; omega))
          go_enter Try.func78, Try.ntmps78
          go_wp2_with (first | (go_at_call 40; refine (withinT _ _ _ _ (by omega)).mono ?_; rintro e w2 ⟨rfl, rfl⟩) | (go_at_call 40; refine (withinF _ _ _ _ (by omega)).mono ?_; rintro e w2 ⟨rfl, rfl⟩))
          (try simp only [Exit.inBlock, Exit.then])
          refine bodyPost_void (by first | exact .inl rfl | exact .inr rfl) (by kernel_rfl) rfl ⟨rfl, ?_⟩
          rw [HA.out, HF.out]
          exact H3.out _ _ _ _ _ (H4.out _ _ _ _ _ (H1.out _ _ _ _ _ _ H0.out))
        · have hz2 : ((xc + -1) == 0) = false := by simp; omega
          have HF : Hid (addSec ⟨x0, xc, xl, xs, xa⟩ (-1) = ⟨x0, xc + -1, xl, xs, -1⟩) := by
            show addSec _ _ = _
            simp only [addSec]
            rw [if_pos (by omega)]; (first | (simp; done) | (simp; omega))
          go_enter Try.func78, Try.ntmps78
          go_wp2_with (first | (go_at_call 40; refine (withinT _ _ _ _ (by omega)).mono ?_; rintro e w2 ⟨rfl, rfl⟩) | (go_at_call 40; refine (withinF _ _ _ _ (by omega)).mono ?_; rintro e w2 ⟨rfl, rfl⟩))
          (try simp only [Exit.inBlock, Exit.then])
          refine bodyPost_void (by first | exact .inl rfl | exact .inr rfl) (by kernel_rfl) rfl ⟨rfl, ?_⟩
          rw [HA.out, HF.out]
          exact H4.out _ _ _ _ _ (H1.out _ _ _ _ _ _ H0.out)
    · obtain rfl : xc = -1000000 := by omega
      have HF : Hid (addSec ⟨x0, -1000000, xl, xs, xa⟩ (-1) = ⟨x0, -1000000, true, xs, -1⟩) := by
        show addSec _ _ = _
        simp only [addSec]
        rw [if_neg (by omega)]; simp
      go_enter Try.func78, Try.ntmps78
      go_wp2_with (first | (go_at_call 40; refine (withinT _ _ _ _ (by omega)).mono ?_; rintro e w2 ⟨rfl, rfl⟩) | (go_at_call 40; refine (withinF _ _ _ _ (by omega)).mono ?_; rintro e w2 ⟨rfl, rfl⟩))
      (try simp only [Exit.inBlock, Exit.then])
      refine bodyPost_void (by first | exact .inl rfl | exact .inr rfl) (by kernel_rfl) rfl ⟨rfl, ?_⟩
      rw [HA.out, HF.out]
      exact H2.out _ _ _ _ _ (H4.out _ _ _ _ _ H0.out)

end Go.Proofs.Ytmcaohablpaknaa
