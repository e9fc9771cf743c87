import Derived.Test.YtmcaohablpaknaaWn
namespace Go.Proofs.Ytmcaohablpaknaa
open Go.RowKit Go.ChangeShapes Go.WideShapes

/-- a state that the specification writes into -/
structure Ws (w0 w : World) (q : Nat) (ok : Bool) (sa : Option Addr) (sc : Nat) (da : Option Addr) (dc ns nd : Nat) (S : Nat → Sec) (D : Nat → Bool) : Prop where
  bel : Below w0.heap.size w0 w
  box : Box w q 42 #[.bool ok, .slice sa ns sc, .slice da nd dc]
  qge : w0.heap.size ≤ q
  st : StOwn w0.heap.size w sa sc da dc ns nd S D
theorem Ws.mono {w0 w : World} {q : Nat} {ok : Bool} {sa : Option Addr} {sc : Nat} {da : Option Addr} {dc ns nd : Nat} {S : Nat → Sec} {D : Nat → Bool} {w' : World} {M : Nat} (h : Ws w0 w q ok sa sc da dc ns nd S D) (hb : Below M w w') (hM : w.heap.size ≤ M) : Ws w0 w' q ok sa sc da dc ns nd S D :=
  ⟨h.bel.trans (hb.mono (Nat.le_trans h.bel.size hM)), h.box.mono hb hM, h.qge, h.st.mono (Nat.le_refl _) hb hM⟩
theorem Ws.drew {w0 w : World} {q : Nat} {ok : Bool} {sa : Option Addr} {sc : Nat} {da : Option Addr} {dc ns nd : Nat} {S : Nat → Sec} {D : Nat → Bool} (h : Ws w0 w q ok sa sc da dc ns nd S D) : Ws w0 w.drew q ok sa sc da dc ns nd S D := ⟨h.bel.drew, h.box.drew, h.qge, ⟨h.st.s, h.st.d⟩⟩
theorem Ws.put {w0 w : World} {q : Nat} {ok : Bool} {sc : Nat} {da : Option Addr} {dc ns nd : Nat} {S : Nat → Sec} {D : Nat → Bool} {g : Nat} (h : Ws w0 w q ok (some ⟨g, 0, none⟩) sc da dc ns nd S D) {i j : Nat} (hi : i < ns) (hj : j < 5) {u : Value} (x : Sec) (hx : ∀ j', j' < 5 → secV x j' = if j' = j then u else secV (S i) j') :
    Ws w0 (w.setCell ⟨g, i * 5 + j, none⟩ u) q ok (some ⟨g, 0, none⟩) sc da dc ns nd (updS S i x) D := by
  obtain ⟨cur, hg⟩ := h.st.s.offset
  have hge := (h.st.s.lt rfl).1
  refine ⟨h.bel.setCell (p := ⟨g, i * 5 + j, none⟩) hge u, h.box.other (p := ⟨g, i * 5 + j, none⟩) (h.box.ne hg (by decide)) u, h.qge, ⟨h.st.s.store' hi hj u fun i' hi' j' hj' => ?_, h.st.d.set hg (by decide) _ u⟩⟩
  simp only [upd, secF, updS]
  by_cases e1 : i' = i
  · subst e1
    rw [if_pos rfl, hx j' hj']
    by_cases e2 : j' = j
    · rw [if_pos ⟨rfl, e2⟩, if_pos e2]
    · rw [if_neg (fun q => e2 q.2), if_neg e2]
  · rw [if_neg (fun q => e1 q.1), if_neg e1]
theorem Ws.putD {w0 w : World} {q : Nat} {ok : Bool} {sa : Option Addr} {sc : Nat} {dc ns nd : Nat} {S : Nat → Sec} {D : Nat → Bool} {g : Nat} (h : Ws w0 w q ok sa sc (some ⟨g, 0, none⟩) dc ns nd S D) {i : Nat} (hi : i < nd) (v : Bool) :
    Ws w0 (w.setCell ⟨g, i, none⟩ (.bool v)) q ok sa sc (some ⟨g, 0, none⟩) dc ns nd S (updD D i v) := by
  obtain ⟨cur, hg⟩ := h.st.d.offset
  have hge := (h.st.d.lt rfl).1
  refine ⟨h.bel.setCell (p := ⟨g, i, none⟩) hge (.bool v), h.box.other (p := ⟨g, i, none⟩) (h.box.ne hg (by decide)) (.bool v), h.qge, ⟨h.st.s.set hg (by decide) _ _, ?_⟩⟩
  have := h.st.d.store' (i := i) (j := 0) (G := boolF (updD D i v)) hi (by omega) (.bool v) fun i' hi' j' hj' => by
    obtain rfl : j' = 0 := by omega
    simp only [upd, boolF, updD]
    by_cases e1 : i' = i
    · simp [e1]
    · simp [e1]
  rwa [Nat.mul_one, Nat.add_zero] at this
theorem Ws.secs {w0 w : World} {q : Nat} {ok : Bool} {sc : Nat} {da : Option Addr} {dc ns nd : Nat} {S : Nat → Sec} {D : Nat → Bool} {g : Nat} (h : Ws w0 w q ok (some ⟨g, 0, none⟩) sc da dc ns nd S D) {i : Nat} (hi : i < ns) : w.cell? ⟨g, i * 5, none⟩ = some (.int .i64 (S i).told) ∧ w.cell? ⟨g, i * 5 + 1, none⟩ = some (.int .i64 (S i).count) ∧ w.cell? ⟨g, i * 5 + 2, none⟩ = some (.bool (S i).lost) ∧ w.cell? ⟨g, i * 5 + 3, none⟩ = some (.bool (S i).sweep) ∧ w.cell? ⟨g, i * 5 + 4, none⟩ = some (.int .i64 (S i).last) :=
  ⟨h.st.s.cell hi (j := 0) (by omega), h.st.s.cell hi (j := 1) (by omega), h.st.s.cell hi (j := 2) (by omega), h.st.s.cell hi (j := 3) (by omega), h.st.s.cell hi (j := 4) (by omega)⟩

set_option maxRecDepth 10000 in
set_option maxHeartbeats 8000000 in
theorem addSP (w0 : World) (q : Nat) (ok : Bool) (sa : Option Addr) (sc : Nat) (da : Option Addr) (dc ns nd : Nat) (S : Nat → Sec) (D : Nat → Bool) (s : Int) (w : World) (hs1 : -1 ≤ s) (hs2 : s < ns) (h60 : ns ≤ 60) (hc : ∀ i, i < ns → -1000000 ≤ (S i).count ∧ (S i).count ≤ 1000000) (h : Ws w0 w q ok sa sc da dc ns nd S D) :
    Calls Try.prog 55 #[.pointer (some ⟨q, 0, none⟩), .int .i64 s, .int .i64 1] w fun e w' => e = .returned (.tuple #[]) ∧ Ws w0 w' q ok sa sc da dc ns nd (addF S s 1) D := by
  by_cases hs : s < 0
  · have HW : Hid (Ws w0 w q ok sa sc da dc ns nd (addF S s 1) D) := by
      show Ws _ _ _ _ _ _ _ _ _ _ _ _
      rw [addF_out S _ hs]
      exact h
    clear h
    go_enter Try.func55, Try.ntmps55
    go_wp2_with fail
    (try simp only [Exit.inBlock, Exit.then])
    exact bodyPost_void (by first | exact .inl rfl | exact .inr rfl) (by kernel_rfl) rfl ⟨rfl, HW.out⟩
  · obtain ⟨i, rfl⟩ : ∃ i : Nat, s = i := ⟨s.toNat, by omega⟩
    have hi : i < ns := by omega
    obtain ⟨hr1, hr2⟩ := hc i hi
    clear hc
    obtain ⟨g, rfl, _, _⟩ := h.st.s.addr (by omega)
    have x4 : w.cell? ⟨q, 1, none⟩ = some (.slice (some ⟨g, 0, none⟩) ns sc) := h.box.cell 1
    obtain ⟨c0, c1, c2, c3, c4⟩ := h.secs hi
    have f1 := h.st.s.free (i * 5 + 1)
    have f2 := h.st.s.free (i * 5 + 2)
    have f3 := h.st.s.free (i * 5 + 3)
    have f4 := h.st.s.free (i * 5 + 4)
    have hi1 : (i : Int) < (ns : Int) := by omega
    have hi0 : (0 : Int) ≤ (i : Int) := by omega
    obtain ⟨x, hx⟩ : ∃ x, Hid (S i = x) := ⟨_, rfl⟩
    rw [hx.out] at c0 c1 c2 c3 c4 hr1 hr2
    obtain ⟨x0, xc, xl, xs, xa⟩ := x
    have hr1 : -1000000 ≤ xc := hr1
    have hr2 : xc ≤ 1000000 := hr2
    have HA : Hid (addF S i 1 = updS S i (addSec ⟨x0, xc, xl, xs, xa⟩ 1)) := by
      show addF S i 1 = _
      rw [addF_in, hx.out]
    have H4 : Hid (∀ W k l s z, Ws w0 W q ok (some ⟨g, 0, none⟩) sc da dc ns nd (updS S i ⟨x0, k, l, s, z⟩) D → Ws w0 (W.setCell ⟨g, i * 5 + 4, none⟩ (.int .i64 1)) q ok (some ⟨g, 0, none⟩) sc da dc ns nd (updS S i ⟨x0, k, l, s, 1⟩) D) := fun W k l s z h => by
      have := h.put hi (j := 4) (by omega) (u := .int .i64 1) ⟨x0, k, l, s, 1⟩ fun j' hj' => by
        rw [updS_same]
        rcases (show j' = 0 ∨ j' = 1 ∨ j' = 2 ∨ j' = 3 ∨ j' = 4 by omega) with rfl | rfl | rfl | rfl | rfl <;> rfl
      rwa [updS_two] at this
    have H1 : Hid (∀ W k k' l s z, Ws w0 W q ok (some ⟨g, 0, none⟩) sc da dc ns nd (updS S i ⟨x0, k, l, s, z⟩) D → Ws w0 (W.setCell ⟨g, i * 5 + 1, none⟩ (.int .i64 k')) q ok (some ⟨g, 0, none⟩) sc da dc ns nd (updS S i ⟨x0, k', l, s, z⟩) D) := fun W k k' l s z h => by
      have := h.put hi (j := 1) (by omega) (u := .int .i64 k') ⟨x0, k', l, s, z⟩ fun j' hj' => by
        rw [updS_same]
        rcases (show j' = 0 ∨ j' = 1 ∨ j' = 2 ∨ j' = 3 ∨ j' = 4 by omega) with rfl | rfl | rfl | rfl | rfl <;> rfl
      rwa [updS_two] at this
    have H2 : Hid (∀ W k l s z, Ws w0 W q ok (some ⟨g, 0, none⟩) sc da dc ns nd (updS S i ⟨x0, k, l, s, z⟩) D → Ws w0 (W.setCell ⟨g, i * 5 + 2, none⟩ (.bool true)) q ok (some ⟨g, 0, none⟩) sc da dc ns nd (updS S i ⟨x0, k, true, s, z⟩) D) := fun W k l s z h => by
      have := h.put hi (j := 2) (by omega) (u := .bool true) ⟨x0, k, true, s, z⟩ fun j' hj' => by
        rw [updS_same]
        rcases (show j' = 0 ∨ j' = 1 ∨ j' = 2 ∨ j' = 3 ∨ j' = 4 by omega) with rfl | rfl | rfl | rfl | rfl <;> rfl
      rwa [updS_two] at this
    have H3 : Hid (∀ W k l s z, Ws w0 W q ok (some ⟨g, 0, none⟩) sc da dc ns nd (updS S i ⟨x0, k, l, s, z⟩) D → Ws w0 (W.setCell ⟨g, i * 5 + 3, none⟩ (.bool false)) q ok (some ⟨g, 0, none⟩) sc da dc ns nd (updS S i ⟨x0, k, l, false, z⟩) D) := fun W k l s z h => by
      have := h.put hi (j := 3) (by omega) (u := .bool false) ⟨x0, k, l, false, z⟩ fun j' hj' => by
        rw [updS_same]
        rcases (show j' = 0 ∨ j' = 1 ∨ j' = 2 ∨ j' = 3 ∨ j' = 4 by omega) with rfl | rfl | rfl | rfl | rfl <;> rfl
      rwa [updS_two] at this
    have H0 : Hid (Ws w0 w q ok (some ⟨g, 0, none⟩) sc da dc ns nd (updS S i ⟨x0, xc, xl, xs, xa⟩) D) := by
      show Ws _ _ _ _ _ _ _ _ _ _ _ _
      rw [← hx.out, updS_id]
      exact h
    clear h hx c0
    by_cases hr : xc + 1 ≤ 1000000
    · by_cases hn : xc + 1 < 0
      · cases xs
        · have hz : ((xc + 1) == 0) = false := by simp; omega
          have HF : Hid (addSec ⟨x0, xc, xl, false, xa⟩ 1 = ⟨x0, xc + 1, true, false, 1⟩) := by
            show addSec _ _ = _
            simp only [addSec]
            rw [if_pos (by omega)]; (first | (simp; done) | (simp; omega))
          go_enter Try.func55, Try.ntmps55
          go_wp2_with (first | (go_at_call 38; refine (innT _ _ _ _ (by omega)).mono ?_; rintro e w2 ⟨rfl, rfl⟩) | (go_at_call 38; refine (innF _ _ _ _ (by omega)).mono ?_; rintro e w2 ⟨rfl, rfl⟩))
          (try simp only [Exit.inBlock, Exit.then])
          refine bodyPost_void (by first | exact .inl rfl | exact .inr rfl) (by kernel_rfl) rfl ⟨rfl, ?_⟩
          rw [HA.out, HF.out]
          exact H2.out _ _ _ _ _ (H4.out _ _ _ _ _ (H1.out _ _ _ _ _ _ H0.out))
        · have hz : ((xc + 1) == 0) = false := by simp; omega
          have HF : Hid (addSec ⟨x0, xc, xl, true, xa⟩ 1 = ⟨x0, xc + 1, true, true, 1⟩) := by
            show addSec _ _ = _
            simp only [addSec]
            rw [if_pos (by omega)]; (first | (simp; done) | (simp; omega))
          go_enter Try.func55, Try.ntmps55
          go_wp2_with (first | (go_at_call 38; refine (innT _ _ _ _ (by omega)).mono ?_; rintro e w2 ⟨rfl, rfl⟩) | (go_at_call 38; refine (innF _ _ _ _ (by omega)).mono ?_; rintro e w2 ⟨rfl, rfl⟩))
          (try simp only [Exit.inBlock, Exit.then])
          refine bodyPost_void (by first | exact .inl rfl | exact .inr rfl) (by kernel_rfl) rfl ⟨rfl, ?_⟩
          rw [HA.out, HF.out]
          exact H2.out _ _ _ _ _ (H4.out _ _ _ _ _ (H1.out _ _ _ _ _ _ H0.out))
      · cases xs
        · have HF : Hid (addSec ⟨x0, xc, xl, false, xa⟩ 1 = ⟨x0, xc + 1, xl, false, 1⟩) := by
            show addSec _ _ = _
            simp only [addSec]
            rw [if_pos (by omega)]; (first | (simp; done) | (simp; omega))
          go_enter Try.func55, Try.ntmps55
          go_wp2_with (first | (go_at_call 38; refine (innT _ _ _ _ (by omega)).mono ?_; rintro e w2 ⟨rfl, rfl⟩) | (go_at_call 38; refine (innF _ _ _ _ (by omega)).mono ?_; rintro e w2 ⟨rfl, rfl⟩))
          (try simp only [Exit.inBlock, Exit.then])
          refine bodyPost_void (by first | exact .inl rfl | exact .inr rfl) (by kernel_rfl) rfl ⟨rfl, ?_⟩
          rw [HA.out, HF.out]
          exact H4.out _ _ _ _ _ (H1.out _ _ _ _ _ _ H0.out)
        · have HF : Hid (addSec ⟨x0, xc, xl, true, xa⟩ 1 = ⟨x0, xc + 1, xl, true, 1⟩) := by
            show addSec _ _ = _
            simp only [addSec]
            rw [if_pos (by omega)]; (first | (simp; done) | (simp; omega))
          go_enter Try.func55, Try.ntmps55
          go_wp2_with (first | (go_at_call 38; refine (innT _ _ _ _ (by omega)).mono ?_; rintro e w2 ⟨rfl, rfl⟩) | (go_at_call 38; refine (innF _ _ _ _ (by omega)).mono ?_; rintro e w2 ⟨rfl, rfl⟩))
          (try simp only [Exit.inBlock, Exit.then])
          refine bodyPost_void (by first | exact .inl rfl | exact .inr rfl) (by kernel_rfl) rfl ⟨rfl, ?_⟩
          rw [HA.out, HF.out]
          exact H4.out _ _ _ _ _ (H1.out _ _ _ _ _ _ H0.out)
    · obtain rfl : xc = 1000000 := by omega
      cases xs
      · have HF : Hid (addSec ⟨x0, 1000000, xl, false, xa⟩ 1 = ⟨x0, 1000000, xl, false, 1⟩) := by
          show addSec _ _ = _
          simp only [addSec]
          rw [if_neg (by omega)]; simp
        go_enter Try.func55, Try.ntmps55
        go_wp2_with (first | (go_at_call 38; refine (innT _ _ _ _ (by omega)).mono ?_; rintro e w2 ⟨rfl, rfl⟩) | (go_at_call 38; refine (innF _ _ _ _ (by omega)).mono ?_; rintro e w2 ⟨rfl, rfl⟩))
        (try simp only [Exit.inBlock, Exit.then])
        refine bodyPost_void (by first | exact .inl rfl | exact .inr rfl) (by kernel_rfl) rfl ⟨rfl, ?_⟩
        rw [HA.out, HF.out]
        exact H4.out _ _ _ _ _ H0.out
      · have HF : Hid (addSec ⟨x0, 1000000, xl, true, xa⟩ 1 = ⟨x0, 1000000, xl, true, 1⟩) := by
          show addSec _ _ = _
          simp only [addSec]
          rw [if_neg (by omega)]; simp
        go_enter Try.func55, Try.ntmps55
        go_wp2_with (first | (go_at_call 38; refine (innT _ _ _ _ (by omega)).mono ?_; rintro e w2 ⟨rfl, rfl⟩) | (go_at_call 38; refine (innF _ _ _ _ (by omega)).mono ?_; rintro e w2 ⟨rfl, rfl⟩))
        (try simp only [Exit.inBlock, Exit.then])
        refine bodyPost_void (by first | exact .inl rfl | exact .inr rfl) (by kernel_rfl) rfl ⟨rfl, ?_⟩
        rw [HA.out, HF.out]
        exact H4.out _ _ _ _ _ H0.out

set_option maxRecDepth 10000 in
set_option maxHeartbeats 8000000 in
theorem addSM (w0 : World) (q : Nat) (ok : Bool) (sa : Option Addr) (sc : Nat) (da : Option Addr) (dc ns nd : Nat) (S : Nat → Sec) (D : Nat → Bool) (s : Int) (w : World) (hs1 : -1 ≤ s) (hs2 : s < ns) (h60 : ns ≤ 60) (hc : ∀ i, i < ns → -1000000 ≤ (S i).count ∧ (S i).count ≤ 1000000) (h : Ws w0 w q ok sa sc da dc ns nd S D) :
    Calls Try.prog 55 #[.pointer (some ⟨q, 0, none⟩), .int .i64 s, .int .i64 (-1)] w fun e w' => e = .returned (.tuple #[]) ∧ Ws w0 w' q ok sa sc da dc ns nd (addF S s (-1)) D := by
  by_cases hs : s < 0
  · have HW : Hid (Ws w0 w q ok sa sc da dc ns nd (addF S s (-1)) D) := by
      show Ws _ _ _ _ _ _ _ _ _ _ _ _
      rw [addF_out S _ hs]
      exact h
    clear h
    go_enter Try.func55, Try.ntmps55
    go_wp2_with fail
    (try simp only [Exit.inBlock, Exit.then])
    exact bodyPost_void (by first | exact .inl rfl | exact .inr rfl) (by kernel_rfl) rfl ⟨rfl, HW.out⟩
  · obtain ⟨i, rfl⟩ : ∃ i : Nat, s = i := ⟨s.toNat, by omega⟩
    have hi : i < ns := by omega
    obtain ⟨hr1, hr2⟩ := hc i hi
    clear hc
    obtain ⟨g, rfl, _, _⟩ := h.st.s.addr (by omega)
    have x4 : w.cell? ⟨q, 1, none⟩ = some (.slice (some ⟨g, 0, none⟩) ns sc) := h.box.cell 1
    obtain ⟨c0, c1, c2, c3, c4⟩ := h.secs hi
    have f1 := h.st.s.free (i * 5 + 1)
    have f2 := h.st.s.free (i * 5 + 2)
    have f3 := h.st.s.free (i * 5 + 3)
    have f4 := h.st.s.free (i * 5 + 4)
    have hi1 : (i : Int) < (ns : Int) := by omega
    have hi0 : (0 : Int) ≤ (i : Int) := by omega
    obtain ⟨x, hx⟩ : ∃ x, Hid (S i = x) := ⟨_, rfl⟩
    rw [hx.out] at c0 c1 c2 c3 c4 hr1 hr2
    obtain ⟨x0, xc, xl, xs, xa⟩ := x
    have hr1 : -1000000 ≤ xc := hr1
    have hr2 : xc ≤ 1000000 := hr2
    have HA : Hid (addF S i (-1) = updS S i (addSec ⟨x0, xc, xl, xs, xa⟩ (-1))) := by
      show addF S i (-1) = _
      rw [addF_in, hx.out]
    have H4 : Hid (∀ W k l s z, Ws w0 W q ok (some ⟨g, 0, none⟩) sc da dc ns nd (updS S i ⟨x0, k, l, s, z⟩) D → Ws w0 (W.setCell ⟨g, i * 5 + 4, none⟩ (.int .i64 (-1))) q ok (some ⟨g, 0, none⟩) sc da dc ns nd (updS S i ⟨x0, k, l, s, (-1)⟩) D) := fun W k l s z h => by
      have := h.put hi (j := 4) (by omega) (u := .int .i64 (-1)) ⟨x0, k, l, s, (-1)⟩ fun j' hj' => by
        rw [updS_same]
        rcases (show j' = 0 ∨ j' = 1 ∨ j' = 2 ∨ j' = 3 ∨ j' = 4 by omega) with rfl | rfl | rfl | rfl | rfl <;> rfl
      rwa [updS_two] at this
    have H1 : Hid (∀ W k k' l s z, Ws w0 W q ok (some ⟨g, 0, none⟩) sc da dc ns nd (updS S i ⟨x0, k, l, s, z⟩) D → Ws w0 (W.setCell ⟨g, i * 5 + 1, none⟩ (.int .i64 k')) q ok (some ⟨g, 0, none⟩) sc da dc ns nd (updS S i ⟨x0, k', l, s, z⟩) D) := fun W k k' l s z h => by
      have := h.put hi (j := 1) (by omega) (u := .int .i64 k') ⟨x0, k', l, s, z⟩ fun j' hj' => by
        rw [updS_same]
        rcases (show j' = 0 ∨ j' = 1 ∨ j' = 2 ∨ j' = 3 ∨ j' = 4 by omega) with rfl | rfl | rfl | rfl | rfl <;> rfl
      rwa [updS_two] at this
    have H2 : Hid (∀ W k l s z, Ws w0 W q ok (some ⟨g, 0, none⟩) sc da dc ns nd (updS S i ⟨x0, k, l, s, z⟩) D → Ws w0 (W.setCell ⟨g, i * 5 + 2, none⟩ (.bool true)) q ok (some ⟨g, 0, none⟩) sc da dc ns nd (updS S i ⟨x0, k, true, s, z⟩) D) := fun W k l s z h => by
      have := h.put hi (j := 2) (by omega) (u := .bool true) ⟨x0, k, true, s, z⟩ fun j' hj' => by
        rw [updS_same]
        rcases (show j' = 0 ∨ j' = 1 ∨ j' = 2 ∨ j' = 3 ∨ j' = 4 by omega) with rfl | rfl | rfl | rfl | rfl <;> rfl
      rwa [updS_two] at this
    have H3 : Hid (∀ W k l s z, Ws w0 W q ok (some ⟨g, 0, none⟩) sc da dc ns nd (updS S i ⟨x0, k, l, s, z⟩) D → Ws w0 (W.setCell ⟨g, i * 5 + 3, none⟩ (.bool false)) q ok (some ⟨g, 0, none⟩) sc da dc ns nd (updS S i ⟨x0, k, l, false, z⟩) D) := fun W k l s z h => by
      have := h.put hi (j := 3) (by omega) (u := .bool false) ⟨x0, k, l, false, z⟩ fun j' hj' => by
        rw [updS_same]
        rcases (show j' = 0 ∨ j' = 1 ∨ j' = 2 ∨ j' = 3 ∨ j' = 4 by omega) with rfl | rfl | rfl | rfl | rfl <;> rfl
      rwa [updS_two] at this
    have H0 : Hid (Ws w0 w q ok (some ⟨g, 0, none⟩) sc da dc ns nd (updS S i ⟨x0, xc, xl, xs, xa⟩) D) := by
      show Ws _ _ _ _ _ _ _ _ _ _ _ _
      rw [← hx.out, updS_id]
      exact h
    clear h hx c0
    by_cases hr : -1000000 ≤ xc + -1
    · by_cases hn : xc + -1 < 0
      · cases xs
        · have hz : ((xc + -1) == 0) = false := by simp; omega
          have HF : Hid (addSec ⟨x0, xc, xl, false, xa⟩ (-1) = ⟨x0, xc + -1, true, false, -1⟩) := by
            show addSec _ _ = _
            simp only [addSec]
            rw [if_pos (by omega)]; (first | (simp; done) | (simp; omega))
          go_enter Try.func55, Try.ntmps55
          go_wp2_with (first | (go_at_call 38; refine (innT _ _ _ _ (by omega)).mono ?_; rintro e w2 ⟨rfl, rfl⟩) | (go_at_call 38; refine (innF _ _ _ _ (by omega)).mono ?_; rintro e w2 ⟨rfl, rfl⟩))
          (try simp only [Exit.inBlock, Exit.then])
          refine bodyPost_void (by first | exact .inl rfl | exact .inr rfl) (by kernel_rfl) rfl ⟨rfl, ?_⟩
          rw [HA.out, HF.out]
          exact H2.out _ _ _ _ _ (H4.out _ _ _ _ _ (H1.out _ _ _ _ _ _ H0.out))
        · have hz : ((xc + -1) == 0) = false := by simp; omega
          have HF : Hid (addSec ⟨x0, xc, xl, true, xa⟩ (-1) = ⟨x0, xc + -1, true, true, -1⟩) := by
            show addSec _ _ = _
            simp only [addSec]
            rw [if_pos (by omega)]; (first | (simp; done) | (simp; omega))
          go_enter Try.func55, Try.ntmps55
          go_wp2_with (first | (go_at_call 38; refine (innT _ _ _ _ (by omega)).mono ?_; rintro e w2 ⟨rfl, rfl⟩) | (go_at_call 38; refine (innF _ _ _ _ (by omega)).mono ?_; rintro e w2 ⟨rfl, rfl⟩))
          (try simp only [Exit.inBlock, Exit.then])
          refine bodyPost_void (by first | exact .inl rfl | exact .inr rfl) (by kernel_rfl) rfl ⟨rfl, ?_⟩
          rw [HA.out, HF.out]
          exact H2.out _ _ _ _ _ (H4.out _ _ _ _ _ (H1.out _ _ _ _ _ _ H0.out))
      · by_cases hz : xc + -1 = 0
        · obtain rfl : xc = 1 := by omega
          cases xs
          · have HF : Hid (addSec ⟨x0, 1, xl, false, xa⟩ (-1) = ⟨x0, 0, xl, false, -1⟩) := by
              show addSec _ _ = _
              simp only [addSec]
              rw [if_pos (by omega)]; (first | (simp; done) | (simp; omega))
            go_enter Try.func55, Try.ntmps55
            go_wp2_with (first | (go_at_call 38; refine (innT _ _ _ _ (by omega)).mono ?_; rintro e w2 ⟨rfl, rfl⟩) | (go_at_call 38; refine (innF _ _ _ _ (by omega)).mono ?_; rintro e w2 ⟨rfl, rfl⟩))
            (try simp only [Exit.inBlock, Exit.then])
            refine bodyPost_void (by first | exact .inl rfl | exact .inr rfl) (by kernel_rfl) rfl ⟨rfl, ?_⟩
            rw [HA.out, HF.out]
            exact H4.out _ _ _ _ _ (H1.out _ _ _ _ _ _ H0.out)
          · have HF : Hid (addSec ⟨x0, 1, xl, true, xa⟩ (-1) = ⟨x0, 0, xl, false, -1⟩) := by
              show addSec _ _ = _
              simp only [addSec]
              rw [if_pos (by omega)]; (first | (simp; done) | (simp; omega))
            go_enter Try.func55, Try.ntmps55
            go_wp2_with (first | (go_at_call 38; refine (innT _ _ _ _ (by omega)).mono ?_; rintro e w2 ⟨rfl, rfl⟩) | (go_at_call 38; refine (innF _ _ _ _ (by omega)).mono ?_; rintro e w2 ⟨rfl, rfl⟩))
            (try simp only [Exit.inBlock, Exit.then])
            refine bodyPost_void (by first | exact .inl rfl | exact .inr rfl) (by kernel_rfl) rfl ⟨rfl, ?_⟩
            rw [HA.out, HF.out]
            exact H3.out _ _ _ _ _ (H4.out _ _ _ _ _ (H1.out _ _ _ _ _ _ H0.out))
        · have hz2 : ((xc + -1) == 0) = false := by simp; omega
          cases xs
          · have HF : Hid (addSec ⟨x0, xc, xl, false, xa⟩ (-1) = ⟨x0, xc + -1, xl, false, -1⟩) := by
              show addSec _ _ = _
              simp only [addSec]
              rw [if_pos (by omega)]; (first | (simp; done) | (simp; omega))
            go_enter Try.func55, Try.ntmps55
            go_wp2_with (first | (go_at_call 38; refine (innT _ _ _ _ (by omega)).mono ?_; rintro e w2 ⟨rfl, rfl⟩) | (go_at_call 38; refine (innF _ _ _ _ (by omega)).mono ?_; rintro e w2 ⟨rfl, rfl⟩))
            (try simp only [Exit.inBlock, Exit.then])
            refine bodyPost_void (by first | exact .inl rfl | exact .inr rfl) (by kernel_rfl) rfl ⟨rfl, ?_⟩
            rw [HA.out, HF.out]
            exact H4.out _ _ _ _ _ (H1.out _ _ _ _ _ _ H0.out)
          · have HF : Hid (addSec ⟨x0, xc, xl, true, xa⟩ (-1) = ⟨x0, xc + -1, xl, true, -1⟩) := by
              show addSec _ _ = _
              simp only [addSec]
              rw [if_pos (by omega)]; (first | (simp; done) | (simp; omega))
            go_enter Try.func55, Try.ntmps55
            go_wp2_with (first | (go_at_call 38; refine (innT _ _ _ _ (by omega)).mono ?_; rintro e w2 ⟨rfl, rfl⟩) | (go_at_call 38; refine (innF _ _ _ _ (by omega)).mono ?_; rintro e w2 ⟨rfl, rfl⟩))
            (try simp only [Exit.inBlock, Exit.then])
            refine bodyPost_void (by first | exact .inl rfl | exact .inr rfl) (by kernel_rfl) rfl ⟨rfl, ?_⟩
            rw [HA.out, HF.out]
            exact H4.out _ _ _ _ _ (H1.out _ _ _ _ _ _ H0.out)
    · obtain rfl : xc = -1000000 := by omega
      cases xs
      · have HF : Hid (addSec ⟨x0, -1000000, xl, false, xa⟩ (-1) = ⟨x0, -1000000, true, false, -1⟩) := by
          show addSec _ _ = _
          simp only [addSec]
          rw [if_neg (by omega)]; simp
        go_enter Try.func55, Try.ntmps55
        go_wp2_with (first | (go_at_call 38; refine (innT _ _ _ _ (by omega)).mono ?_; rintro e w2 ⟨rfl, rfl⟩) | (go_at_call 38; refine (innF _ _ _ _ (by omega)).mono ?_; rintro e w2 ⟨rfl, rfl⟩))
        (try simp only [Exit.inBlock, Exit.then])
        refine bodyPost_void (by first | exact .inl rfl | exact .inr rfl) (by kernel_rfl) rfl ⟨rfl, ?_⟩
        rw [HA.out, HF.out]
        exact H2.out _ _ _ _ _ (H4.out _ _ _ _ _ H0.out)
      · have HF : Hid (addSec ⟨x0, -1000000, xl, true, xa⟩ (-1) = ⟨x0, -1000000, true, true, -1⟩) := by
          show addSec _ _ = _
          simp only [addSec]
          rw [if_neg (by omega)]; simp
        go_enter Try.func55, Try.ntmps55
        go_wp2_with (first | (go_at_call 38; refine (innT _ _ _ _ (by omega)).mono ?_; rintro e w2 ⟨rfl, rfl⟩) | (go_at_call 38; refine (innF _ _ _ _ (by omega)).mono ?_; rintro e w2 ⟨rfl, rfl⟩))
        (try simp only [Exit.inBlock, Exit.then])
        refine bodyPost_void (by first | exact .inl rfl | exact .inr rfl) (by kernel_rfl) rfl ⟨rfl, ?_⟩
        rw [HA.out, HF.out]
        exact H2.out _ _ _ _ _ (H4.out _ _ _ _ _ H0.out)

end Go.Proofs.Ytmcaohablpaknaa
