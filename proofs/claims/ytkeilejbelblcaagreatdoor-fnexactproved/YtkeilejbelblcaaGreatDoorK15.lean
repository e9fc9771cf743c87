import Derived.Test.YtkeilejbelblcaaGreatDoorK14
import Derived.Test.YtkeilejbelblcaaGreatDoorH3
namespace Go.Proofs.YtkeilejbelblcaaGreatDoor
open Go.RowKit Go.Lib

set_option maxHeartbeats 2000000 in
theorem equal115 (a a' : Option Addr) (n c c' : Nat) (B B' : Nat → Bool) (w : World) (hn : n ≤ 1048576) (h : VsAt 1 0 w a n (boolF B)) (h' : VsAt 1 0 w a' n (boolF B')) :
    Calls Tryz.prog 109 #[.slice a n c, .slice a' n c'] w fun e w' => e = .returned (.bool (allB (fun j => decide (B j = B' j)) n)) ∧ Below w.heap.size w w' := by
  obtain ⟨R, HR⟩ : ∃ R, Hid (allB (fun j => decide (B j = B' j)) n = R) := ⟨_, rfl⟩
  rw [HR.out]
  go_enter Tryz.func109, Tryz.ntmps109
  go_wp2_with fail
  go_loopw [13] (fun i wr => ∃ k : Nat, k ≤ n ∧ i = .int .i64 (k : Int) ∧ Hid (∀ j, j < k → B j = B' j) ∧ Below w.heap.size w wr) (fun i _ => n - (intOf i).toNat)
  case atStart => exact ⟨0, Nat.zero_le _, rfl, fun i hi => absurd hi (Nat.not_lt_zero _), Below.refl _ _⟩
  case round =>
    obtain ⟨k, hk, rfl, HK, hbel⟩ := hrel
    by_cases hlt : k < n
    · obtain ⟨b, off, rfl, _, hb, hc⟩ := (h.mono (Nat.le_refl _) hbel (Nat.le_refl _)) (by omega)
      obtain ⟨b', off', rfl, _, hb', hc'⟩ := (h'.mono (Nat.le_refl _) hbel (Nat.le_refl _)) (by omega)
      have c0 : wr.cell? ⟨b, off + k, none⟩ = some (.bool (B k)) := by have := hc k hlt 0 (by omega); rwa [Nat.mul_one] at this
      have d0 : wr.cell? ⟨b', off' + k, none⟩ = some (.bool (B' k)) := by have := hc' k hlt 0 (by omega); rwa [Nat.mul_one] at this
      have hlt' : (k : Int) < (n : Int) := by omega
      have hk0 : (0 : Int) ≤ (k : Int) := by omega
      have HNO : Hid (B k ≠ B' k → R = false) := fun e => by rw [← HR.out, allB_no hlt (by simpa using e)]
      have HGO : Hid (B k = B' k → ∀ j, j < k + 1 → B j = B' j) := fun e j hj => by
        by_cases c : j = k
        · subst c
          exact e
        · exact HK.out j (by omega)
      clear hc hc'
      cases h1 : B k with
      | true =>
        cases h2 : B' k with
        | true =>
          rw [h1] at c0
          rw [h2] at d0
          have HX := HGO.out (by rw [h1, h2])
          go_wp2_with fail
          go_quiet (fail)
          go_wp2_with fail
          go_roundw
          case rel => exact ⟨k + 1, by omega, by go_num, HX, below_drewN hbel _⟩
          case measure => simp [intOf]; omega
        | false =>
          rw [h1] at c0
          rw [h2] at d0
          have HX : Hid (R = false) := HNO.out (by rw [h1, h2]; simp)
          go_wp2_with fail
          go_quiet (fail)
          go_wp2_with fail
          go_ret
          exact ⟨by rw [HX.out]; rfl, below_drewN hbel _⟩
      | false =>
        cases h2 : B' k with
        | false =>
          rw [h1] at c0
          rw [h2] at d0
          have HX := HGO.out (by rw [h1, h2])
          go_wp2_with fail
          go_quiet (fail)
          go_wp2_with fail
          go_roundw
          case rel => exact ⟨k + 1, by omega, by go_num, HX, below_drewN hbel _⟩
          case measure => simp [intOf]; omega
        | true =>
          rw [h1] at c0
          rw [h2] at d0
          have HX : Hid (R = false) := HNO.out (by rw [h1, h2]; simp)
          go_wp2_with fail
          go_quiet (fail)
          go_wp2_with fail
          go_ret
          exact ⟨by rw [HX.out]; rfl, below_drewN hbel _⟩
    · obtain rfl : k = n := by omega
      have HX : Hid (R = true) := by
        rw [Hid, ← HR.out]
        exact allB_iff.2 fun j hj => by simpa using HK.out j hj
      go_wp2_with fail
      go_ret
      exact ⟨by rw [HX.out]; rfl, hbel⟩
set_option maxRecDepth 100000 in
set_option maxHeartbeats 4000000 in
theorem sameHeld84 (x y : Hl) (xa ya : Option Addr) (xc yc : Nat) (w : World) (hnb : y.nb = x.nb) (hn : x.nb ≤ 1048576) (hx : VsAt 1 0 w xa x.nb (boolF x.B)) (hy : VsAt 1 0 w ya y.nb (boolF y.B)) :
    Calls Tryz.prog 84 #[.agg #[.int .i64 x.st, .int .i64 x.gone, .slice xa x.nb xc, .bool x.shown, .int .i64 x.timer], .agg #[.int .i64 y.st, .int .i64 y.gone, .slice ya y.nb yc, .bool y.shown, .int .i64 y.timer]] w fun e w' => e = .returned (.bool (sameB x y)) ∧ Below w.heap.size w w' := by
  obtain ⟨xs, xg, nb0, xB, xsh, xt⟩ := x
  obtain ⟨ys, yg, nb, yB, ysh, yt⟩ := y
  dsimp only at hnb hn hx hy ⊢
  subst hnb
  obtain ⟨R, HR⟩ : ∃ R, Hid (sameB ⟨xs, xg, nb, xB, xsh, xt⟩ ⟨ys, yg, nb, yB, ysh, yt⟩ = R) := ⟨_, rfl⟩
  rw [HR.out]
  have HR2 : Hid ((decide (xs = ys) && (decide (xg = yg) && (decide (xsh = ysh) && (decide (xt = yt) && allB (fun j => decide (xB j = yB j)) nb)))) = R) := HR.out
  have H : Hid (VsAt 1 0 w xa nb (boolF xB) ∧ VsAt 1 0 w ya nb (boolF yB)) := ⟨hx, hy⟩
  have S0 : Hid (Below w.heap.size w ((w.alloc (.cells #[.int .i64 xs, .int .i64 xg, .slice xa nb xc, .bool xsh, .int .i64 xt] 72)).alloc (.cells #[.int .i64 ys, .int .i64 yg, .slice ya nb yc, .bool ysh, .int .i64 yt] 72)) ∧ Box ((w.alloc (.cells #[.int .i64 xs, .int .i64 xg, .slice xa nb xc, .bool xsh, .int .i64 xt] 72)).alloc (.cells #[.int .i64 ys, .int .i64 yg, .slice ya nb yc, .bool ysh, .int .i64 yt] 72)) w.heap.size 72 #[.int .i64 xs, .int .i64 xg, .slice xa nb xc, .bool xsh, .int .i64 xt] ∧ Box ((w.alloc (.cells #[.int .i64 xs, .int .i64 xg, .slice xa nb xc, .bool xsh, .int .i64 xt] 72)).alloc (.cells #[.int .i64 ys, .int .i64 yg, .slice ya nb yc, .bool ysh, .int .i64 yt] 72)) (w.heap.size + 1) 72 #[.int .i64 ys, .int .i64 yg, .slice ya nb yc, .bool ysh, .int .i64 yt]) := ⟨bel2 _ _ _, (Box.new _ _ _).alloc _, by have := Box.new (w.alloc (.cells #[.int .i64 xs, .int .i64 xg, .slice xa nb xc, .bool xsh, .int .i64 xt] 72)) 72 #[.int .i64 ys, .int .i64 yg, .slice ya nb yc, .bool ysh, .int .i64 yt]; simpa using this⟩
  clear hx hy HR
  by_cases e0 : xs = ys
  rotate_left
  · have z0 : (xs == ys) = false := by simpa using e0
    have HX : Hid (R = false) := by rw [Hid, ← HR2.out]; simp [e0]
    go_enter Tryz.func84, Tryz.ntmps84
    go_wp2_with fail
    go_ret
    exact ⟨by rw [HX.out]; rfl, S0.out.1⟩
  subst e0
  by_cases e1 : xg = yg
  rotate_left
  · have z0 : (xg == yg) = false := by simpa using e1
    have HX : Hid (R = false) := by rw [Hid, ← HR2.out]; simp [e1]
    go_enter Tryz.func84, Tryz.ntmps84
    go_wp2_with fail
    go_ret
    exact ⟨by rw [HX.out]; rfl, S0.out.1⟩
  subst e1
  have z0 : (xs == xs) = true := by simp
  have z1 : (xg == xg) = true := by simp
  go_enter Tryz.func84, Tryz.ntmps84
  go_wp2_with fail
  generalize ((w.alloc (.cells #[.int .i64 xs, .int .i64 xg, .slice xa nb xc, .bool xsh, .int .i64 xt] 72)).alloc (.cells #[.int .i64 xs, .int .i64 xg, .slice ya nb yc, .bool ysh, .int .i64 yt] 72)) = W at S0 ⊢
  refine (equal115 xa ya nb xc yc xB yB W hn (H.out.1.mono (Nat.le_refl _) S0.out.1 (Nat.le_refl _)) (H.out.2.mono (Nat.le_refl _) S0.out.1 (Nat.le_refl _))).mono ?_
  rintro e w1 ⟨he, hb1⟩
  have S1 : Hid (Below w.heap.size w w1 ∧ Box w1 w.heap.size 72 #[.int .i64 xs, .int .i64 xg, .slice xa nb xc, .bool xsh, .int .i64 xt] ∧ Box w1 (w.heap.size + 1) 72 #[.int .i64 xs, .int .i64 xg, .slice ya nb yc, .bool ysh, .int .i64 yt]) := ⟨S0.out.1.trans (hb1.mono S0.out.1.size), S0.out.2.1.mono hb1 (Nat.le_refl _), S0.out.2.2.mono hb1 (Nat.le_refl _)⟩
  clear hb1 S0
  have u3 : w1.cell? ⟨w.heap.size, 3, none⟩ = some (.bool xsh) := S1.out.2.1.cell 3
  have u4 : w1.cell? ⟨w.heap.size, 4, none⟩ = some (.int .i64 xt) := S1.out.2.1.cell 4
  have v3 : w1.cell? ⟨w.heap.size + 1, 3, none⟩ = some (.bool ysh) := S1.out.2.2.cell 3
  have v4 : w1.cell? ⟨w.heap.size + 1, 4, none⟩ = some (.int .i64 yt) := S1.out.2.2.cell 4
  cases hA : allB (fun j => decide (xB j = yB j)) nb with
  | false =>
    rw [hA] at he
    subst he
    have HX : Hid (R = false) := by rw [Hid, ← HR2.out, hA]; simp
    go_wp2_with fail
    go_ret
    exact ⟨by rw [HX.out]; rfl, S1.out.1⟩
  | true =>
    rw [hA] at he
    subst he
    have HR3 : Hid ((decide (xsh = ysh) && decide (xt = yt)) = R) := by rw [Hid, ← HR2.out, hA]; simp
    by_cases e4 : xt = yt
    · subst e4
      have z4 : (xt == xt) = true := by simp
      cases xsh with
      | true =>
        cases ysh with
        | true =>
          have HX : Hid (R = true) := by rw [Hid, ← HR3.out]; simp
          go_wp2_with fail
          go_ret
          exact ⟨by rw [HX.out]; rfl, S1.out.1⟩
        | false =>
          have HX : Hid (R = false) := by rw [Hid, ← HR3.out]; simp
          go_wp2_with fail
          go_ret
          exact ⟨by rw [HX.out]; rfl, S1.out.1⟩
      | false =>
        cases ysh with
        | false =>
          have HX : Hid (R = true) := by rw [Hid, ← HR3.out]; simp
          go_wp2_with fail
          go_ret
          exact ⟨by rw [HX.out]; rfl, S1.out.1⟩
        | true =>
          have HX : Hid (R = false) := by rw [Hid, ← HR3.out]; simp
          go_wp2_with fail
          go_ret
          exact ⟨by rw [HX.out]; rfl, S1.out.1⟩
    · have z4 : (xt == yt) = false := by simpa using e4
      have HX : Hid (R = false) := by rw [Hid, ← HR3.out]; simp [e4]
      cases xsh <;> cases ysh
      all_goals
        go_wp2_with fail
        go_ret
        exact ⟨by rw [HX.out]; rfl, S1.out.1⟩
theorem HsG.hs {B : Nat} {w : World} {a : Option Addr} {n cap : Nat} {Y : Nat → Hl} {r rc : Nat → Nat} (h : HsG B w (.slice a n cap) n Y r rc) : HsAt 0 w a n Y := by
  intro h0
  obtain ⟨b, off, e, _, hlt, hc⟩ := h.own.vs h0
  exact ⟨b, off, e, Nat.zero_le _, hlt, fun i hi => ⟨_, _, hc i hi 0 (by omega), hc i hi 1 (by omega), hc i hi 2 (by omega), hc i hi 3 (by omega), hc i hi 4 (by omega), (h.row i hi).vs.le (Nat.zero_le _)⟩⟩
set_option maxRecDepth 100000 in
set_option maxHeartbeats 4000000 in
theorem equalFunc82 (a a' : Option Addr) (n c c' : Nat) (X Y : Nat → Hl) (w : World) (hn : n ≤ 1048576) (hb : ∀ i, i < n → (Y i).nb = (X i).nb ∧ (X i).nb ≤ 1048576) (h : HsAt 0 w a n X) (h' : HsAt 0 w a' n Y) :
    Calls Tryz.prog 81 #[.slice a n c, .slice a' n c', .func (.func 84) #[] #[]] w fun e w' => e = .returned (.bool (allB (fun i => sameB (X i) (Y i)) n)) ∧ Below w.heap.size w w' := by
  obtain ⟨R, HR⟩ : ∃ R, Hid (allB (fun i => sameB (X i) (Y i)) n = R) := ⟨_, rfl⟩
  rw [HR.out]
  have H : Hid (HsAt 0 w a n X ∧ HsAt 0 w a' n Y ∧ ∀ i, i < n → (Y i).nb = (X i).nb ∧ (X i).nb ≤ 1048576) := ⟨h, h', hb⟩
  clear h h' hb
  go_enter Tryz.func81, Tryz.ntmps81
  go_wp2_with fail
  go_loopw [17] (fun i wr => ∃ q : Nat, q ≤ n ∧ i = .int .i64 (q : Int) ∧ Hid (∀ j, j < q → sameB (X j) (Y j) = true) ∧ Below w.heap.size w wr) (fun i _ => n - (intOf i).toNat)
  case atStart => exact ⟨0, Nat.zero_le _, rfl, fun i hi => absurd hi (Nat.not_lt_zero _), Below.refl _ _⟩
  case round =>
    obtain ⟨q, hq, rfl, HQ, hbel⟩ := hrel
    by_cases hlt : q < n
    · obtain ⟨b, off, rfl, _, hbb, hc⟩ := H.out.1.mono (Nat.le_refl _) hbel (Nat.le_refl _) (by omega)
      obtain ⟨b', off', rfl, _, hbb', hc'⟩ := H.out.2.1.mono (Nat.le_refl _) hbel (Nat.le_refl _) (by omega)
      obtain ⟨xa, xc, x0, x1, x2, x3, x4, hxv⟩ := hc q hlt
      obtain ⟨ya, yc, y0, y1, y2, y3, y4, hyv⟩ := hc' q hlt
      have HV : Hid (VsAt 1 0 wr xa (X q).nb (boolF (X q).B) ∧ VsAt 1 0 wr ya (Y q).nb (boolF (Y q).B)) := ⟨hxv, hyv⟩
      have hq0 : (0 : Int) ≤ (q : Int) := by omega
      have hqn : (q : Int) < (n : Int) := by omega
      have HNO : Hid (sameB (X q) (Y q) = false → R = false) := fun e => by rw [← HR.out, allB_no hlt e]
      have HGO : Hid (sameB (X q) (Y q) = true → ∀ j, j < q + 1 → sameB (X j) (Y j) = true) := fun e j hj => by
        by_cases c : j = q
        · subst c
          exact e
        · exact HQ.out j (by omega)
      have B2 : Hid (Below wr.heap.size wr ((wr.alloc (.cells #[.int .i64 (X q).st, .int .i64 (X q).gone, .slice xa (X q).nb xc, .bool (X q).shown, .int .i64 (X q).timer] 72)).alloc (.cells #[.int .i64 (Y q).st, .int .i64 (Y q).gone, .slice ya (Y q).nb yc, .bool (Y q).shown, .int .i64 (Y q).timer] 72)) ∧ Below w.heap.size w ((wr.alloc (.cells #[.int .i64 (X q).st, .int .i64 (X q).gone, .slice xa (X q).nb xc, .bool (X q).shown, .int .i64 (X q).timer] 72)).alloc (.cells #[.int .i64 (Y q).st, .int .i64 (Y q).gone, .slice ya (Y q).nb yc, .bool (Y q).shown, .int .i64 (Y q).timer] 72))) := ⟨bel2 _ _ _, hbel.trans ((bel2 wr _ _).mono hbel.size)⟩
      clear hc hc' hxv hyv
      go_wp2_with fail
      generalize ((wr.alloc (.cells #[.int .i64 (X q).st, .int .i64 (X q).gone, .slice xa (X q).nb xc, .bool (X q).shown, .int .i64 (X q).timer] 72)).alloc (.cells #[.int .i64 (Y q).st, .int .i64 (Y q).gone, .slice ya (Y q).nb yc, .bool (Y q).shown, .int .i64 (Y q).timer] 72)) = W at B2 ⊢
      clear x0 x1 x2 x3 x4 y0 y1 y2 y3 y4
      refine (sameHeld84 (X q) (Y q) xa ya xc yc W (H.out.2.2 q hlt).1 (H.out.2.2 q hlt).2 (HV.out.1.mono (Nat.le_refl _) B2.out.1 (Nat.le_refl _)) (HV.out.2.mono (Nat.le_refl _) B2.out.1 (Nat.le_refl _))).mono ?_
      rintro e w1 ⟨he, hb1⟩
      have B3 := B2.out.2.trans (hb1.mono B2.out.2.size)
      cases hS : sameB (X q) (Y q) with
      | true =>
        rw [hS] at he
        subst he
        have HX := HGO.out hS
        go_wp2_with fail
        go_roundw
        case rel => exact ⟨q + 1, by omega, by go_num, HX, B3⟩
        case measure => simp [intOf]; omega
      | false =>
        rw [hS] at he
        subst he
        have HX : Hid (R = false) := HNO.out hS
        go_wp2_with fail
        go_ret
        exact ⟨by rw [HX.out]; rfl, B3⟩
    · obtain rfl : q = n := by omega
      have HX : Hid (R = true) := by rw [Hid, ← HR.out]; exact allB_iff.2 HQ.out
      go_wp2_with fail
      go_ret
      exact ⟨by rw [HX.out]; rfl, hbel⟩

end Go.Proofs.YtkeilejbelblcaaGreatDoor
