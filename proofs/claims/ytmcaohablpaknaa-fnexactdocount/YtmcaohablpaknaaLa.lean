import Derived.Test.YtmcaohablpaknaaMd
namespace Go.Proofs.Ytmcaohablpaknaa
open Go.RowKit

/-- what is wrong with a counter -/
def CBad (sec : Int) (K : Nat → Nat → Int) (i : Nat) : Prop := K i 0 = K i 1 ∨ ¬ (-1 ≤ K i 0 ∧ K i 0 ≤ sec - 1) ∨ ¬ (-1 ≤ K i 1 ∧ K i 1 ≤ sec - 1)
open Classical in
/-- LayoutOk -/
noncomputable def layOk (sec : Int) (n : Nat) (K : Nat → Nat → Int) : Int :=
  if ¬ (1 ≤ sec ∧ sec ≤ 60) ∨ 120 < n then 1 else if ∃ i, i < n ∧ CBad sec K i then 2 else 0
theorem layOk_one {sec : Int} {n : Nat} {K : Nat → Nat → Int} (h : ¬ (1 ≤ sec ∧ sec ≤ 60) ∨ 120 < n) : layOk sec n K = 1 := by unfold layOk; rw [if_pos h]
theorem layOk_two {sec : Int} {n : Nat} {K : Nat → Nat → Int} (h : ¬ (¬ (1 ≤ sec ∧ sec ≤ 60) ∨ 120 < n)) (h' : ∃ i, i < n ∧ CBad sec K i) : layOk sec n K = 2 := by unfold layOk; rw [if_neg h, if_pos h']
theorem layOk_zero {sec : Int} {n : Nat} {K : Nat → Nat → Int} (h : ¬ (¬ (1 ≤ sec ∧ sec ≤ 60) ∨ 120 < n)) (h' : ∀ i, i < n → ¬ CBad sec K i) : layOk sec n K = 0 := by
  unfold layOk
  rw [if_neg h, if_neg (fun ⟨i, h1, h2⟩ => h' i h1 h2)]
structure LayGood (sec : Int) (n : Nat) (K : Nat → Nat → Int) : Prop where
  s1 : 1 ≤ sec
  s2 : sec ≤ 60
  m : n ≤ 120
  ne : ∀ i, i < n → K i 0 ≠ K i 1
  f1 : ∀ i, i < n → -1 ≤ K i 0
  f2 : ∀ i, i < n → K i 0 ≤ sec - 1
  t1 : ∀ i, i < n → -1 ≤ K i 1
  t2 : ∀ i, i < n → K i 1 ≤ sec - 1
theorem layGood {sec : Int} {n : Nat} {K : Nat → Nat → Int} (h : layOk sec n K = 0) : LayGood sec n K := by
  unfold layOk at h
  split at h
  · omega
  · rename_i h1
    split at h
    · omega
    · rename_i h2
      have h3 : ∀ i, i < n → ¬ CBad sec K i := fun i hi hb => h2 ⟨i, hi, hb⟩
      unfold CBad at h3
      refine ⟨by omega, by omega, by omega, fun i hi => ?_, fun i hi => ?_, fun i hi => ?_, fun i hi => ?_, fun i hi => ?_⟩ <;> (have := h3 i hi; omega)

theorem withinT (x lo hi : Int) (w : World) (h : lo ≤ x ∧ x ≤ hi) : Calls Try.prog 40 #[.int .i64 x, .int .i64 lo, .int .i64 hi] w fun e w' => e = .returned (.bool true) ∧ w' = w := by
  obtain ⟨h1, h2⟩ := h
  go_enter Try.func40, Try.ntmps40
  go_wp2
  go_ret
  exact ⟨rfl, rfl⟩
theorem withinF (x lo hi : Int) (w : World) (h : ¬ (lo ≤ x ∧ x ≤ hi)) : Calls Try.prog 40 #[.int .i64 x, .int .i64 lo, .int .i64 hi] w fun e w' => e = .returned (.bool false) ∧ w' = w := by
  by_cases h1 : lo ≤ x
  · have h2 : ¬ x ≤ hi := fun h3 => h ⟨h1, h3⟩
    clear h
    go_enter Try.func40, Try.ntmps40
    go_wp2
    go_ret
    exact ⟨rfl, rfl⟩
  · clear h
    go_enter Try.func40, Try.ntmps40
    go_wp2
    go_ret
    exact ⟨rfl, rfl⟩
theorem innT (x lo hi : Int) (w : World) (h : lo ≤ x ∧ x ≤ hi) : Calls Try.prog 38 #[.int .i64 x, .int .i64 lo, .int .i64 hi] w fun e w' => e = .returned (.bool true) ∧ w' = w := by
  obtain ⟨h1, h2⟩ := h
  go_enter Try.func38, Try.ntmps38
  go_wp2
  go_ret
  exact ⟨rfl, rfl⟩
theorem innF (x lo hi : Int) (w : World) (h : ¬ (lo ≤ x ∧ x ≤ hi)) : Calls Try.prog 38 #[.int .i64 x, .int .i64 lo, .int .i64 hi] w fun e w' => e = .returned (.bool false) ∧ w' = w := by
  by_cases h1 : lo ≤ x
  · have h2 : ¬ x ≤ hi := fun h3 => h ⟨h1, h3⟩
    clear h
    go_enter Try.func38, Try.ntmps38
    go_wp2
    go_ret
    exact ⟨rfl, rfl⟩
  · clear h
    go_enter Try.func38, Try.ntmps38
    go_wp2
    go_ret
    exact ⟨rfl, rfl⟩

set_option maxRecDepth 10000 in
set_option maxHeartbeats 4000000 in
theorem layI (sec : Int) (a : Option Addr) (n cap : Nat) (K : Nat → Nat → Int) (w : World) (hn : n ≤ 1048576) (hE : VsAt 2 0 w a n (intF K)) :
    Calls Try.prog 12 #[.agg #[.int .i64 sec, .slice a n cap]] w fun e w' => e = .returned (.int .i64 (layOk sec n K)) ∧ Below w.heap.size w w' := by
  by_cases h1 : 1 ≤ sec ∧ sec ≤ 60
  · obtain ⟨s1, s2⟩ := h1
    by_cases h2 : 120 < n
    · rw [layOk_one (Or.inr h2)]
      go_enter Try.func12, Try.ntmps12
      go_wp2_with (first | (go_at_call 40; refine (withinT _ _ _ _ (by omega)).mono ?_; rintro e w1 ⟨rfl, rfl⟩) | (go_at_call 40; refine (withinF _ _ _ _ (by omega)).mono ?_; rintro e w1 ⟨rfl, rfl⟩))
      all_goals
        go_ret
        exact ⟨rfl, bel1 _ _⟩
    · have hq : ∀ r, r = layOk sec n K → layOk sec n K = r := fun r h => h.symm
      go_enter Try.func12, Try.ntmps12
      go_wp2_with (first | (go_at_call 40; refine (withinT _ _ _ _ (by omega)).mono ?_; rintro e w1 ⟨rfl, rfl⟩) | (go_at_call 40; refine (withinF _ _ _ _ (by omega)).mono ?_; rintro e w1 ⟨rfl, rfl⟩))
      go_loopw [18] (fun i wr => ∃ (k : Nat), k ≤ n ∧ i = .int .i64 k ∧ Hid (∀ j, j < k → ¬ CBad sec K j) ∧ wr.cell? ⟨w.heap.size, 0, none⟩ = some (.int .i64 sec) ∧ w.heap.size < wr.heap.size ∧ Below w.heap.size w wr) (fun i _ => n - (intOf i).toNat)
      case atStart => exact ⟨0, Nat.zero_le _, rfl, fun j hj => absurd hj (Nat.not_lt_zero _), by simp, by simp, bel1 _ _⟩
      case round =>
        obtain ⟨k, hk, rfl, hg, cs, hsz, hbel⟩ := hrel
        by_cases hlt : k < n
        · obtain ⟨b, off, rfl, _, hb, hc⟩ := (hE.mono (Nat.le_refl _) hbel (Nat.le_refl _)) (by omega)
          have c0 : wr.cell? ⟨b, off + k * 2, none⟩ = some (.int .i64 (K k 0)) := hc k hlt 0 (by omega)
          have c1 : wr.cell? ⟨b, off + k * 2 + 1, none⟩ = some (.int .i64 (K k 1)) := hc k hlt 1 (by omega)
          have hbc : ∀ o o', (wr.alloc o).heap.size = o' → Below w.heap.size w (wr.alloc o) := fun o o' _ => hbel.alloc (by omega) _
          have HH : Hid (CBad sec K k → layOk sec n K = 2) := fun hh => layOk_two (by omega) ⟨k, hlt, hh⟩
          have HB : Hid (Below w.heap.size w wr) := hbel
          clear hc hbc hbel
          by_cases b0 : K k 0 = K k 1
          · have hr : CBad sec K k := Or.inl b0
            have h22 := HH.out hr
            by_cases b1 : -1 ≤ K k 0 ∧ K k 0 ≤ sec - 1
            · have b2 : -1 ≤ K k 1 ∧ K k 1 ≤ sec - 1 := by omega
              clear hr
              go_wp2_with (first | (go_at_call 40; refine (withinT _ _ _ _ (by omega)).mono ?_; rintro e w1 ⟨rfl, rfl⟩) | (go_at_call 40; refine (withinF _ _ _ _ (by omega)).mono ?_; rintro e w1 ⟨rfl, rfl⟩))
              go_ret
              exact ⟨by rw [h22]; rfl, HB.out.alloc (by omega) _⟩
            · have b2 : ¬ (-1 ≤ K k 1 ∧ K k 1 ≤ sec - 1) := by omega
              clear hr
              go_wp2_with (first | (go_at_call 40; refine (withinT _ _ _ _ (by omega)).mono ?_; rintro e w1 ⟨rfl, rfl⟩) | (go_at_call 40; refine (withinF _ _ _ _ (by omega)).mono ?_; rintro e w1 ⟨rfl, rfl⟩))
              go_ret
              exact ⟨by rw [h22]; rfl, HB.out.alloc (by omega) _⟩
          · by_cases b1 : -1 ≤ K k 0 ∧ K k 0 ≤ sec - 1
            · by_cases b2 : -1 ≤ K k 1 ∧ K k 1 ≤ sec - 1
              · have hR : Hid (∀ j, j < k + 1 → ¬ CBad sec K j) := fun j hj hb => by
                  by_cases e : j = k
                  · subst e
                    unfold CBad at hb
                    omega
                  · exact hg.out j (by omega) hb
                go_wp2_with (first | (go_at_call 40; refine (withinT _ _ _ _ (by omega)).mono ?_; rintro e w1 ⟨rfl, rfl⟩) | (go_at_call 40; refine (withinF _ _ _ _ (by omega)).mono ?_; rintro e w1 ⟨rfl, rfl⟩))
                go_roundw
                case rel => exact ⟨k + 1, by omega, by go_num, hR, by first | exact cs | (simp; exact cs) | (rw [World.cell?_alloc_lt _ _ _ hsz]; exact cs), by simp; omega, HB.out.alloc (by omega) _⟩
                case measure => simp [intOf]; omega
              · go_wp2_with (first | (go_at_call 40; refine (withinT _ _ _ _ (by omega)).mono ?_; rintro e w1 ⟨rfl, rfl⟩) | (go_at_call 40; refine (withinF _ _ _ _ (by omega)).mono ?_; rintro e w1 ⟨rfl, rfl⟩))
                go_ret
                exact ⟨by rw [HH.out (Or.inr (Or.inr b2))]; rfl, HB.out.alloc (by omega) _⟩
            · by_cases b2 : -1 ≤ K k 1 ∧ K k 1 ≤ sec - 1
              all_goals
                go_wp2_with (first | (go_at_call 40; refine (withinT _ _ _ _ (by omega)).mono ?_; rintro e w1 ⟨rfl, rfl⟩) | (go_at_call 40; refine (withinF _ _ _ _ (by omega)).mono ?_; rintro e w1 ⟨rfl, rfl⟩))
                go_ret
                exact ⟨by rw [HH.out (Or.inr (Or.inl b1))]; rfl, HB.out.alloc (by omega) _⟩
        · obtain rfl : k = n := by omega
          go_wp2_with fail
          go_ret
          exact ⟨by rw [layOk_zero (by omega) hg.out]; rfl, hbel⟩
  · rw [layOk_one (Or.inl h1)]
    go_enter Try.func12, Try.ntmps12
    go_wp2_with (first | (go_at_call 40; refine (withinT _ _ _ _ (by omega)).mono ?_; rintro e w1 ⟨rfl, rfl⟩) | (go_at_call 40; refine (withinF _ _ _ _ (by omega)).mono ?_; rintro e w1 ⟨rfl, rfl⟩))
    all_goals
      go_ret
      exact ⟨rfl, bel1 _ _⟩

set_option maxRecDepth 10000 in
set_option maxHeartbeats 4000000 in
theorem layS (sec : Int) (a : Option Addr) (n cap : Nat) (K : Nat → Nat → Int) (w : World) (hn : n ≤ 1048576) (hE : VsAt 2 0 w a n (intF K)) :
    Calls Try.prog 10 #[.agg #[.int .i64 sec, .slice a n cap]] w fun e w' => e = .returned (.int .i64 (layOk sec n K)) ∧ Below w.heap.size w w' := by
  by_cases h1 : 1 ≤ sec ∧ sec ≤ 60
  · obtain ⟨s1, s2⟩ := h1
    by_cases h2 : 120 < n
    · rw [layOk_one (Or.inr h2)]
      go_enter Try.func10, Try.ntmps10
      go_wp2_with (first | (go_at_call 38; refine (innT _ _ _ _ (by omega)).mono ?_; rintro e w1 ⟨rfl, rfl⟩) | (go_at_call 38; refine (innF _ _ _ _ (by omega)).mono ?_; rintro e w1 ⟨rfl, rfl⟩))
      all_goals
        go_ret
        exact ⟨rfl, bel1 _ _⟩
    · have hq : ∀ r, r = layOk sec n K → layOk sec n K = r := fun r h => h.symm
      go_enter Try.func10, Try.ntmps10
      go_wp2_with (first | (go_at_call 38; refine (innT _ _ _ _ (by omega)).mono ?_; rintro e w1 ⟨rfl, rfl⟩) | (go_at_call 38; refine (innF _ _ _ _ (by omega)).mono ?_; rintro e w1 ⟨rfl, rfl⟩))
      go_loopw [18] (fun i wr => ∃ (k : Nat), k ≤ n ∧ i = .int .i64 k ∧ Hid (∀ j, j < k → ¬ CBad sec K j) ∧ wr.cell? ⟨w.heap.size, 0, none⟩ = some (.int .i64 sec) ∧ w.heap.size < wr.heap.size ∧ Below w.heap.size w wr) (fun i _ => n - (intOf i).toNat)
      case atStart => exact ⟨0, Nat.zero_le _, rfl, fun j hj => absurd hj (Nat.not_lt_zero _), by simp, by simp, bel1 _ _⟩
      case round =>
        obtain ⟨k, hk, rfl, hg, cs, hsz, hbel⟩ := hrel
        by_cases hlt : k < n
        · obtain ⟨b, off, rfl, _, hb, hc⟩ := (hE.mono (Nat.le_refl _) hbel (Nat.le_refl _)) (by omega)
          have c0 : wr.cell? ⟨b, off + k * 2, none⟩ = some (.int .i64 (K k 0)) := hc k hlt 0 (by omega)
          have c1 : wr.cell? ⟨b, off + k * 2 + 1, none⟩ = some (.int .i64 (K k 1)) := hc k hlt 1 (by omega)
          have hbc : ∀ o o', (wr.alloc o).heap.size = o' → Below w.heap.size w (wr.alloc o) := fun o o' _ => hbel.alloc (by omega) _
          have HH : Hid (CBad sec K k → layOk sec n K = 2) := fun hh => layOk_two (by omega) ⟨k, hlt, hh⟩
          have HB : Hid (Below w.heap.size w wr) := hbel
          clear hc hbc hbel
          by_cases b0 : K k 0 = K k 1
          · have hr : CBad sec K k := Or.inl b0
            have h22 := HH.out hr
            by_cases b1 : -1 ≤ K k 0 ∧ K k 0 ≤ sec - 1
            · have b2 : -1 ≤ K k 1 ∧ K k 1 ≤ sec - 1 := by omega
              clear hr
              go_wp2_with (first | (go_at_call 38; refine (innT _ _ _ _ (by omega)).mono ?_; rintro e w1 ⟨rfl, rfl⟩) | (go_at_call 38; refine (innF _ _ _ _ (by omega)).mono ?_; rintro e w1 ⟨rfl, rfl⟩))
              go_ret
              exact ⟨by rw [h22]; rfl, HB.out.alloc (by omega) _⟩
            · have b2 : ¬ (-1 ≤ K k 1 ∧ K k 1 ≤ sec - 1) := by omega
              clear hr
              go_wp2_with (first | (go_at_call 38; refine (innT _ _ _ _ (by omega)).mono ?_; rintro e w1 ⟨rfl, rfl⟩) | (go_at_call 38; refine (innF _ _ _ _ (by omega)).mono ?_; rintro e w1 ⟨rfl, rfl⟩))
              go_ret
              exact ⟨by rw [h22]; rfl, HB.out.alloc (by omega) _⟩
          · by_cases b1 : -1 ≤ K k 0 ∧ K k 0 ≤ sec - 1
            · by_cases b2 : -1 ≤ K k 1 ∧ K k 1 ≤ sec - 1
              · have hR : Hid (∀ j, j < k + 1 → ¬ CBad sec K j) := fun j hj hb => by
                  by_cases e : j = k
                  · subst e
                    unfold CBad at hb
                    omega
                  · exact hg.out j (by omega) hb
                go_wp2_with (first | (go_at_call 38; refine (innT _ _ _ _ (by omega)).mono ?_; rintro e w1 ⟨rfl, rfl⟩) | (go_at_call 38; refine (innF _ _ _ _ (by omega)).mono ?_; rintro e w1 ⟨rfl, rfl⟩))
                go_roundw
                case rel => exact ⟨k + 1, by omega, by go_num, hR, by first | exact cs | (simp; exact cs) | (rw [World.cell?_alloc_lt _ _ _ hsz]; exact cs), by simp; omega, HB.out.alloc (by omega) _⟩
                case measure => simp [intOf]; omega
              · go_wp2_with (first | (go_at_call 38; refine (innT _ _ _ _ (by omega)).mono ?_; rintro e w1 ⟨rfl, rfl⟩) | (go_at_call 38; refine (innF _ _ _ _ (by omega)).mono ?_; rintro e w1 ⟨rfl, rfl⟩))
                go_ret
                exact ⟨by rw [HH.out (Or.inr (Or.inr b2))]; rfl, HB.out.alloc (by omega) _⟩
            · by_cases b2 : -1 ≤ K k 1 ∧ K k 1 ≤ sec - 1
              all_goals
                go_wp2_with (first | (go_at_call 38; refine (innT _ _ _ _ (by omega)).mono ?_; rintro e w1 ⟨rfl, rfl⟩) | (go_at_call 38; refine (innF _ _ _ _ (by omega)).mono ?_; rintro e w1 ⟨rfl, rfl⟩))
                go_ret
                exact ⟨by rw [HH.out (Or.inr (Or.inl b1))]; rfl, HB.out.alloc (by omega) _⟩
        · obtain rfl : k = n := by omega
          go_wp2_with fail
          go_ret
          exact ⟨by rw [layOk_zero (by omega) hg.out]; rfl, hbel⟩
  · rw [layOk_one (Or.inl h1)]
    go_enter Try.func10, Try.ntmps10
    go_wp2_with (first | (go_at_call 38; refine (innT _ _ _ _ (by omega)).mono ?_; rintro e w1 ⟨rfl, rfl⟩) | (go_at_call 38; refine (innF _ _ _ _ (by omega)).mono ?_; rintro e w1 ⟨rfl, rfl⟩))
    all_goals
      go_ret
      exact ⟨rfl, bel1 _ _⟩

end Go.Proofs.Ytmcaohablpaknaa
