import Derived.Test.YtflomaagenjfpaaMd
namespace Go.Proofs.Ytflomaagenjfpaa
open Go.RowKit

set_option maxHeartbeats 400000 in
theorem szIntS (a : Option Addr) (len cap : Nat) (left : Int) (w : World) (hs : len ≤ maxLen) (h0 : 0 ≤ left) (h1 : left ≤ 1048576) :
    Calls Try.prog 19 #[.slice a len cap, .int .i64 left] w fun e w' => e = .returned (.int .i64 (szL left len)) ∧ w' = w := by
  unfold maxLen at hs
  by_cases h : left < (len : Int)
  · go_enter Try.func19, Try.ntmps19
    go_wp2
    go_ret
    exact ⟨by simp [szL]; omega, rfl⟩
  · go_enter Try.func19, Try.ntmps19
    go_wp2
    go_ret
    exact ⟨by simp [szL]; omega, rfl⟩

set_option maxHeartbeats 400000 in
theorem szBoolS (a : Option Addr) (len cap : Nat) (left : Int) (w : World) (hs : len ≤ maxLen) (h0 : 0 ≤ left) (h1 : left ≤ 1048576) :
    Calls Try.prog 20 #[.slice a len cap, .int .i64 left] w fun e w' => e = .returned (.int .i64 (szL left len)) ∧ w' = w := by
  unfold maxLen at hs
  by_cases h : left < (len : Int)
  · go_enter Try.func20, Try.ntmps20
    go_wp2
    go_ret
    exact ⟨by simp [szL]; omega, rfl⟩
  · go_enter Try.func20, Try.ntmps20
    go_wp2
    go_ret
    exact ⟨by simp [szL]; omega, rfl⟩

set_option maxHeartbeats 1000000 in
theorem szBoolSS (a : Option Addr) (n cap : Nat) (K : Nat → Nat) (T : Nat → Nat → Bool) (left : Int) (w : World) (hn : n ≤ maxLen) (h0 : 0 ≤ left) (h1 : left ≤ 1048576)
    (hJ : BsAt 0 w a n K T) (hs : ∀ i, i < n → K i ≤ maxLen) :
    Calls Try.prog 21 #[.slice a n cap, .int .i64 left] w fun e w' =>
      ∃ r : Int, e = .returned (.int .i64 r) ∧ r ≤ left ∧ (0 ≤ r → (n : Int) ≤ left ∧ ∀ i, i < n → (K i : Int) ≤ left) ∧ Below w.heap.size w w' := by
  unfold maxLen at hn
  by_cases h : left < (n : Int)
  · go_enter Try.func21, Try.ntmps21
    go_wp2
    go_ret
    exact ⟨-1, rfl, by omega, by omega, Below.refl _ _⟩
  · go_enter Try.func21, Try.ntmps21
    go_wp2_with fail
    go_loopw [1, 5] (fun l i wr => ∃ (k : Nat) (lv : Int), k ≤ n ∧ i = .int .i64 k ∧ l = .int .i64 lv ∧ 0 ≤ lv ∧ lv ≤ left ∧ Hid (∀ i, i < k → (K i : Int) ≤ left) ∧ Below w.heap.size w wr)
      (fun _ i _ => n - (intOf i).toNat)
    case atStart => exact ⟨0, left - n, Nat.zero_le _, rfl, rfl, by omega, by omega, fun i hi => absurd hi (Nat.not_lt_zero _), Below.refl _ _⟩
    case round =>
      obtain ⟨k, lv, hk, rfl, rfl, hl0, hl1, Hall, hbel⟩ := hrel
      by_cases hlt : k < n
      · obtain ⟨b, off, rfl, _, hb, hc⟩ := (hJ.mono (Nat.le_refl _) hbel (Nat.le_refl _)) (by omega)
        obtain ⟨ra, rc, c0, _⟩ := hc k hlt
        have hsz := hs k hlt
        clear hc
        go_wp2_with fail
        refine (szBoolS ra (K k) rc lv _ hsz hl0 (by omega)).mono ?_
        rintro e w1 ⟨he, hw⟩
        have hw := hw.symm
        subst hw
        obtain ⟨r, hr⟩ : ∃ l, l = szL lv (K k) := ⟨_, rfl⟩
        rw [← hr] at he
        subst he
        by_cases hneg : r < 0
        · go_wp2
          go_ret
          exact ⟨-1, rfl, by omega, by omega, hbel⟩
        · have q1 := szL_pos (left := lv) (n := K k) (by rw [← hr]; exact hneg)
          rw [← hr] at q1
          have Hr : Hid (∀ i, i < k + 1 → (K i : Int) ≤ left) := by
            intro i hi
            by_cases e : i = k
            · subst e
              omega
            · exact Hall.out i (by omega)
          have r1 : r ≤ lv := by omega
          clear Hall hr q1
          go_wp2
          go_roundw
          case rel => exact ⟨k + 1, r, by omega, by go_num, rfl, by omega, by omega, Hr, hbel⟩
          case measure => simp [intOf]; omega
      · obtain rfl : k = n := by omega
        go_wp2
        go_ret
        exact ⟨lv, rfl, by omega, fun _ => ⟨by omega, Hall.out⟩, hbel⟩

set_option maxHeartbeats 1000000 in
theorem szRow (r : Rw) (xa fa oa ka : Option Addr) (xc fc oc kc : Nat) (left : Int) (w : World) (hf : r.fits) (h0 : 0 ≤ left) (h1 : left ≤ 1048576) (hP : RwIn 0 w r xa fa oa ka) :
    Calls Try.prog 6 #[.agg #[.slice xa r.nn xc, .slice fa r.nf fc, .slice oa r.no oc, .slice ka r.nk kc], .int .i64 left] w fun e w' =>
      ∃ l : Int, e = .returned (.int .i64 l) ∧ l ≤ left ∧ (0 ≤ l → r.small) ∧ Below w.heap.size w w' := by
  obtain ⟨f1, f2, f3, f4, f5⟩ := hf
  have F5 : Hid (∀ i, i < r.nk → r.K i ≤ maxLen) := f5
  clear f5
  go_enter Try.func6, Try.ntmps6
  go_wp2_with fail
  have B0 := bel1 w (.cells #[.slice xa r.nn xc, .slice fa r.nf fc, .slice oa r.no oc, .slice ka r.nk kc] 26)
  refine (szIntS xa r.nn xc left _ f1 (by omega) (by omega)).mono ?_
  rintro e w1 ⟨he, hw⟩
  have hw := hw.symm
  subst hw
  obtain ⟨l1, hl1⟩ : ∃ l, l = szL left r.nn := ⟨_, rfl⟩
  rw [← hl1] at he
  subst he
  by_cases hn1 : l1 < 0
  · go_wp2_with fail
    go_ret
    exact ⟨-1, rfl, by omega, fun h => by omega, bel1 _ _⟩
  have q1 := szL_pos (left := left) (n := r.nn) (by rw [← hl1]; exact hn1)
  rw [← hl1] at q1
  have r1 : l1 ≤ left := by omega
  have p1 := q1.1
  clear hl1 q1
  go_wp2_with fail
  refine (szIntS fa r.nf fc l1 _ f2 (by omega) (by omega)).mono ?_
  rintro e w2 ⟨he, hw⟩
  have hw := hw.symm
  subst hw
  obtain ⟨l2, hl2⟩ : ∃ l, l = szL l1 r.nf := ⟨_, rfl⟩
  rw [← hl2] at he
  subst he
  by_cases hn2 : l2 < 0
  · go_wp2_with fail
    go_ret
    exact ⟨-1, rfl, by omega, fun h => by omega, bel1 _ _⟩
  have q2 := szL_pos (left := l1) (n := r.nf) (by rw [← hl2]; exact hn2)
  rw [← hl2] at q2
  have r2 : l2 ≤ l1 := by omega
  have p2 := q2.1
  clear hl2 q2
  go_wp2_with fail
  refine (szBoolS oa r.no oc l2 _ f3 (by omega) (by omega)).mono ?_
  rintro e w3 ⟨he, hw⟩
  have hw := hw.symm
  subst hw
  obtain ⟨l3, hl3⟩ : ∃ l, l = szL l2 r.no := ⟨_, rfl⟩
  rw [← hl3] at he
  subst he
  by_cases hn3 : l3 < 0
  · go_wp2_with fail
    go_ret
    exact ⟨-1, rfl, by omega, fun h => by omega, bel1 _ _⟩
  have q3 := szL_pos (left := l2) (n := r.no) (by rw [← hl3]; exact hn3)
  rw [← hl3] at q3
  have r3 : l3 ≤ l2 := by omega
  have p3 := q3.1
  clear hl3 q3
  go_wp2_with fail
  refine (szBoolSS ka r.nk kc r.K r.T l3 _ f4 (by omega) (by omega) (hP.k.mono (Nat.le_refl _) B0 (Nat.le_refl _)) F5.out).mono ?_
  rintro e w4 ⟨l4, rfl, g3, g4, hb4⟩
  have G4 : Hid (0 ≤ l4 → (r.nk : Int) ≤ l3 ∧ ∀ i, i < r.nk → (r.K i : Int) ≤ l3) := g4
  have B4 := B0.trans (hb4.mono B0.size)
  clear g4 hb4 B0
  by_cases hn4 : l4 < 0
  · go_wp2_with fail
    go_ret
    exact ⟨-1, rfl, by omega, fun h => by omega, B4⟩
  go_wp2_with fail
  go_ret
  refine ⟨l4, rfl, by omega, fun h => ?_, B4⟩
  obtain ⟨u3, u4⟩ := G4.out h
  exact ⟨by omega, by omega, by omega, by omega, fun i hi => by have := u4 i hi; omega⟩

end Go.Proofs.Ytflomaagenjfpaa
