import Derived.Test.YtmcaohablpaknaaLb
namespace Go.Proofs.Ytmcaohablpaknaa
open Go.RowKit

theorem Box.two {w : World} {b : Nat} {T : TypeId} {u v : Value} (h : Box w b T #[u, v]) : w.cell? ⟨b, 0, none⟩ = some u ∧ w.cell? ⟨b, 1, none⟩ = some v := ⟨h.cell 0, h.cell 1⟩
theorem Box.three {w : World} {b : Nat} {T : TypeId} {u v x : Value} (h : Box w b T #[u, v, x]) : w.cell? ⟨b, 0, none⟩ = some u ∧ w.cell? ⟨b, 1, none⟩ = some v ∧ w.cell? ⟨b, 2, none⟩ = some x := ⟨h.cell 0, h.cell 1, h.cell 2⟩

set_option maxRecDepth 100000 in
set_option maxHeartbeats 8000000 in
theorem law3 (sec : Int) (a : Option Addr) (n cap : Nat) (K : Nat → Nat → Int) (w : World) (hs : n ≤ maxLen) (hE : VsAt 2 0 w a n (intF K)) :
    Calls Try.prog 3 #[.agg #[.int .i64 sec, .slice a n cap]] w fun e w' => e = .returned (.bool true) ∧ Below w.heap.size w w' := by
  have HE : Hid (VsAt 2 0 w a n (intF K)) := hE
  clear hE
  go_enter Try.func3, Try.ntmps3
  go_wp2_with fail
  have B0 := bel1 w (.cells #[.int .i64 sec, .slice a n cap] 24)
  have A0 := Box.new w 24 #[.int .i64 sec, .slice a n cap]
  refine (szLayout sec a n cap 1048576 _ hs (by omega) (by omega)).mono ?_
  rintro e w1 ⟨rfl, hb1⟩
  have hp := @szL_pos 1048576 n
  generalize szL 1048576 n = r at hp
  have B1 := B0.trans (hb1.mono B0.size)
  have A1 := A0.mono hb1 (Nat.le_refl _)
  clear B0 A0 hb1
  by_cases hneg : r < 0
  · clear hp A1
    go_wp2_with fail
    go_ret
    exact ⟨rfl, B1⟩
  · have hn : n ≤ 1048576 := by have := (hp hneg).1; omega
    clear hp
    obtain ⟨u0, u1⟩ := A1.two
    have H1 : Hid (Box w1 w.heap.size 24 _ ∧ Below w.heap.size w w1) := ⟨A1, B1⟩
    clear A1 B1
    go_wp2_with fail
    clear u0 u1
    refine (toLayout sec a n cap K _ hn (HE.out.mono (Nat.le_refl _) H1.out.2 (Nat.le_refl _))).mono ?_
    rintro e w2 ⟨b1, _, rfl, o2, hb2⟩
    obtain ⟨A1, B1⟩ := H1.out
    have B2 := B1.trans (hb2.mono B1.size)
    have A2 := A1.mono hb2 (Nat.le_refl _)
    clear H1 A1 B1 hb2
    go_wp2_with fail
    refine (layS sec (some ⟨b1, 0, none⟩) n n K _ hn (o2.vs.le (Nat.zero_le _))).mono ?_
    rintro e w3 ⟨rfl, hb3⟩
    have B3 := B2.trans (hb3.mono B2.size)
    have A3 := A2.mono hb3 (Nat.le_refl _)
    clear o2 A2 B2 hb3
    obtain ⟨u0, u1⟩ := A3.two
    have H3 : Hid (Box w3 w.heap.size 24 _ ∧ Below w.heap.size w w3) := ⟨A3, B3⟩
    clear A3 B3
    have HI : Hid (∀ W b1, VOwn b1 68 2 W (.slice (some ⟨b1, 0, none⟩) n n) n (intF K) → Calls Try.prog 12 #[.agg #[.int .i64 sec, .slice (some ⟨b1, 0, none⟩) n n]] W fun e w' => e = .returned (.int .i64 (layOk sec n K)) ∧ Below W.heap.size W w') := fun W b1 hv => layI sec _ n n K W hn (hv.vs.le (Nat.zero_le _))
    generalize layOk sec n K = r0 at *
    go_wp2_with fail
    clear u0 u1
    refine (toLayout sec a n cap K _ hn (HE.out.mono (Nat.le_refl _) H3.out.2 (Nat.le_refl _))).mono ?_
    rintro e w4 ⟨b2, hk2, rfl, o4, hb4⟩
    obtain ⟨A3, B3⟩ := H3.out
    have B4 := B3.trans (hb4.mono B3.size)
    have A4 := A3.mono hb4 (Nat.le_refl _)
    have z4 : b2 < w4.heap.size := (o4.lt rfl).2
    clear H3 A3 B3 hb4
    go_wp2_with fail
    have b5 := bel1 w4 (.cells #[.int .i64 sec, .slice (some ⟨b2, 0, none⟩) n n] 29)
    have X5 := Box.new w4 29 #[.int .i64 sec, .slice (some ⟨b2, 0, none⟩) n n]
    have o5 := o4.mono (Nat.le_refl _) b5 (Nat.le_refl _)
    have A5 := A4.mono b5 (Nat.le_refl _)
    have B5 := B4.trans (b5.mono B4.size)
    refine (HI.out _ b2 o5).mono ?_
    rintro e w6 ⟨rfl, hb6⟩
    have o6 := o5.mono (Nat.le_refl _) hb6 (Nat.le_refl _)
    have A6 := A5.mono hb6 (Nat.le_refl _)
    have X6 := X5.mono hb6 (Nat.le_refl _)
    have B6 := B5.trans (hb6.mono B5.size)
    clear b5 X5 o5 A5 B5 hb6 o4 A4 B4
    obtain ⟨u0, u1⟩ := A6.two
    obtain ⟨x0, x1⟩ := X6.two
    have zx : w4.heap.size < w6.heap.size := X6.lt
    have H6 : Hid (VOwn b2 68 2 w6.drew (.slice (some ⟨b2, 0, none⟩) n n) n (intF K) ∧ Below w.heap.size w w6.drew) := ⟨o6, B6.drew⟩
    clear o6 A6 X6 B6
    go_wp2_with fail
    go_region_with (first | (go_at_call 11; refine (toLayout sec a n cap K _ hn (HE.out.mono (Nat.le_refl _) H6.out.2 (Nat.le_refl _))).mono ?_; rintro e w7 ⟨b3, hk3, rfl, o7, hb7⟩; have x0 := cell_keep hb7 zx x0; have x1 := cell_keep hb7 zx x1; clear u0 u1) | (go_at_call 13; refine (eqLayout sec (some ⟨b2, 0, none⟩) (some ⟨b3, 0, none⟩) n n n K _ hn ((H6.out.1.mono (Nat.le_refl _) hb7 (Nat.le_refl _)).vs.le (Nat.zero_le _)) (o7.vs.le (Nat.zero_le _))).mono ?_; rintro e w8 ⟨rfl, hb8⟩))
    all_goals
      go_wp2_with fail
      go_ret
      exact ⟨rfl, (H6.out.2.trans (hb7.mono H6.out.2.size)).trans (hb8.mono (Nat.le_trans H6.out.2.size hb7.size))⟩

end Go.Proofs.Ytmcaohablpaknaa
