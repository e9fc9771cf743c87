import Derived.Test.YtmcaohablpaknaaEv
import Derived.Test.YtmcaohablpaknaaLh
import Derived.Deep.RegionHeld3
namespace Go.Proofs.Ytmcaohablpaknaa
open Go.RowKit

set_option maxRecDepth 100000 in
set_option maxHeartbeats 8000000 in
theorem law6 (sec : Int) (a : Option Addr) (n cap : Nat) (K : Nat → Nat → Int) (op of dir : Int) (w : World) (hs : n ≤ maxLen) (hE : VsAt 2 0 w a n (intF K)) :
    Calls Try.prog 6 #[.agg #[.int .i64 sec, .slice a n cap], .agg #[.int .i64 op, .int .i64 of, .int .i64 dir]] w fun e w' => e = .returned (.bool true) ∧ Below w.heap.size w w' := by
  have HE : Hid (VsAt 2 0 w a n (intF K)) := hE
  clear hE
  go_enter Try.func6, Try.ntmps6
  go_wp2_with fail
  have H1 : Hid (Box ((w.alloc (.cells #[.int .i64 sec, .slice a n cap] 24)).alloc (.cells #[.int .i64 op, .int .i64 of, .int .i64 dir] 47)) w.heap.size 24 #[.int .i64 sec, .slice a n cap] ∧ Box ((w.alloc (.cells #[.int .i64 sec, .slice a n cap] 24)).alloc (.cells #[.int .i64 op, .int .i64 of, .int .i64 dir] 47)) (w.heap.size + 1) 47 #[.int .i64 op, .int .i64 of, .int .i64 dir] ∧ Below w.heap.size w ((w.alloc (.cells #[.int .i64 sec, .slice a n cap] 24)).alloc (.cells #[.int .i64 op, .int .i64 of, .int .i64 dir] 47))) := ⟨((Box.new' w 24 #[.int .i64 sec, .slice a n cap] (by simp)).alloc (.cells #[.int .i64 op, .int .i64 of, .int .i64 dir] 47)), (Box.new' (w.alloc (.cells #[.int .i64 sec, .slice a n cap] 24)) 47 #[.int .i64 op, .int .i64 of, .int .i64 dir] (by simp)), bel2 w (.cells #[.int .i64 sec, .slice a n cap] 24) (.cells #[.int .i64 op, .int .i64 of, .int .i64 dir] 47)⟩
  refine (szLayout sec a n cap 1048576 _ hs (by omega) (by omega)).mono ?_
  rintro e w1 ⟨rfl, hb1⟩
  have hp := @szL_pos 1048576 n
  generalize szL 1048576 n = r at hp
  have H2 : Hid (Box w1 w.heap.size 24 #[.int .i64 sec, .slice a n cap] ∧ Box w1 (w.heap.size + 1) 47 #[.int .i64 op, .int .i64 of, .int .i64 dir] ∧ Below w.heap.size w w1) := ⟨H1.out.1.mono hb1 (Nat.le_refl _), H1.out.2.1.mono hb1 (Nat.le_refl _), H1.out.2.2.trans (hb1.mono H1.out.2.2.size)⟩
  clear H1 hb1
  by_cases hneg : r < 0
  · clear hp
    go_wp2_with fail
    go_ret
    exact ⟨rfl, H2.out.2.2⟩
  · have hn : n ≤ 1048576 := by have := (hp hneg).1; omega
    clear hp
    have uA0 : w1.cell? ⟨w.heap.size, 0, none⟩ = some (.int .i64 sec) := H2.out.1.cell 0
    have uA1 : w1.cell? ⟨w.heap.size, 1, none⟩ = some (.slice a n cap) := H2.out.1.cell 1
    have uE0 : w1.cell? ⟨(w.heap.size + 1), 0, none⟩ = some (.int .i64 op) := H2.out.2.1.cell 0
    have uE1 : w1.cell? ⟨(w.heap.size + 1), 1, none⟩ = some (.int .i64 of) := H2.out.2.1.cell 1
    have uE2 : w1.cell? ⟨(w.heap.size + 1), 2, none⟩ = some (.int .i64 dir) := H2.out.2.1.cell 2
    have ultA : w.heap.size < w1.heap.size := H2.out.1.lt
    have ultE : (w.heap.size + 1) < w1.heap.size := H2.out.2.1.lt
    go_wp2_with fail
    clear uA0 uA1 uE0 uE1 uE2 ultA ultE
    have H3 : Hid (Box w1.drew w.heap.size 24 #[.int .i64 sec, .slice a n cap] ∧ Box w1.drew (w.heap.size + 1) 47 #[.int .i64 op, .int .i64 of, .int .i64 dir] ∧ Below w.heap.size w w1.drew) := ⟨H2.out.1.drew, H2.out.2.1.drew, H2.out.2.2.drew⟩
    clear H2
    have dA0 : w1.drew.cell? ⟨w.heap.size, 0, none⟩ = some (.int .i64 sec) := H3.out.1.cell 0
    have dA1 : w1.drew.cell? ⟨w.heap.size, 1, none⟩ = some (.slice a n cap) := H3.out.1.cell 1
    have dE0 : w1.drew.cell? ⟨(w.heap.size + 1), 0, none⟩ = some (.int .i64 op) := H3.out.2.1.cell 0
    have dE1 : w1.drew.cell? ⟨(w.heap.size + 1), 1, none⟩ = some (.int .i64 of) := H3.out.2.1.cell 1
    have dE2 : w1.drew.cell? ⟨(w.heap.size + 1), 2, none⟩ = some (.int .i64 dir) := H3.out.2.1.cell 2
    go_region_held3 (fun w' => w'.cell? ⟨w.heap.size, 0, none⟩ = some (.int .i64 sec) ∧ w'.cell? ⟨w.heap.size, 1, none⟩ = some (.slice a n cap) ∧ w'.cell? ⟨(w.heap.size + 1), 0, none⟩ = some (.int .i64 op) ∧ w'.cell? ⟨(w.heap.size + 1), 1, none⟩ = some (.int .i64 of) ∧ w'.cell? ⟨(w.heap.size + 1), 2, none⟩ = some (.int .i64 dir)) (go_keep) (first
      | (go_at_call 11; refine (toLayout sec a n cap K _ hn (HE.out.mono (Nat.le_refl _) H3.out.2.2 (Nat.le_refl _))).mono ?_; rintro e w2 ⟨b1, hkb1, rfl, o2, hb2⟩; have H4 : Hid (Box w2 w.heap.size 24 #[.int .i64 sec, .slice a n cap] ∧ Box w2 (w.heap.size + 1) 47 #[.int .i64 op, .int .i64 of, .int .i64 dir] ∧ Below w.heap.size w w2 ∧ VOwn b1 68 2 w2 (.slice (some ⟨b1, 0, none⟩) n n) n (intF K)) := ⟨H3.out.1.mono hb2 (Nat.le_refl _), H3.out.2.1.mono hb2 (Nat.le_refl _), H3.out.2.2.trans (hb2.mono H3.out.2.2.size), o2⟩; have mA0 : w2.cell? ⟨w.heap.size, 0, none⟩ = some (.int .i64 sec) := H4.out.1.cell 0; have mA1 : w2.cell? ⟨w.heap.size, 1, none⟩ = some (.slice a n cap) := H4.out.1.cell 1; have mE0 : w2.cell? ⟨(w.heap.size + 1), 0, none⟩ = some (.int .i64 op) := H4.out.2.1.cell 0; have mE1 : w2.cell? ⟨(w.heap.size + 1), 1, none⟩ = some (.int .i64 of) := H4.out.2.1.cell 1; have mE2 : w2.cell? ⟨(w.heap.size + 1), 2, none⟩ = some (.int .i64 dir) := H4.out.2.1.cell 2)
      | (go_at_call 26; refine (toCountEvent op of dir _).mono ?_; rintro e w3 ⟨rfl, hb3⟩; have H5 : Hid (Box w3 w.heap.size 24 #[.int .i64 sec, .slice a n cap] ∧ Box w3 (w.heap.size + 1) 47 #[.int .i64 op, .int .i64 of, .int .i64 dir] ∧ Below w.heap.size w w3 ∧ VOwn b1 68 2 w3 (.slice (some ⟨b1, 0, none⟩) n n) n (intF K)) := ⟨H4.out.1.mono hb3 (Nat.le_refl _), H4.out.2.1.mono hb3 (Nat.le_refl _), H4.out.2.2.1.trans (hb3.mono H4.out.2.2.1.size), H4.out.2.2.2.mono (Nat.le_refl _) hb3 (Nat.le_refl _)⟩; have mA0 : w3.cell? ⟨w.heap.size, 0, none⟩ = some (.int .i64 sec) := H5.out.1.cell 0; have mA1 : w3.cell? ⟨w.heap.size, 1, none⟩ = some (.slice a n cap) := H5.out.1.cell 1; have mE0 : w3.cell? ⟨(w.heap.size + 1), 0, none⟩ = some (.int .i64 op) := H5.out.2.1.cell 0; have mE1 : w3.cell? ⟨(w.heap.size + 1), 1, none⟩ = some (.int .i64 of) := H5.out.2.1.cell 1; have mE2 : w3.cell? ⟨(w.heap.size + 1), 2, none⟩ = some (.int .i64 dir) := H5.out.2.1.cell 2)
      | (go_at_call 25; refine (evS sec (some ⟨b1, 0, none⟩) n n K op of dir _ hn (H5.out.2.2.2.vs.le (Nat.zero_le _))).mono ?_; rintro e w4 ⟨rfl, hb4⟩; have H6 : Hid (Box w4 w.heap.size 24 #[.int .i64 sec, .slice a n cap] ∧ Box w4 (w.heap.size + 1) 47 #[.int .i64 op, .int .i64 of, .int .i64 dir] ∧ Below w.heap.size w w4) := ⟨H5.out.1.mono hb4 (Nat.le_refl _), H5.out.2.1.mono hb4 (Nat.le_refl _), H5.out.2.2.1.trans (hb4.mono H5.out.2.2.1.size)⟩; have mA0 : w4.cell? ⟨w.heap.size, 0, none⟩ = some (.int .i64 sec) := H6.out.1.cell 0; have mA1 : w4.cell? ⟨w.heap.size, 1, none⟩ = some (.slice a n cap) := H6.out.1.cell 1; have mE0 : w4.cell? ⟨(w.heap.size + 1), 0, none⟩ = some (.int .i64 op) := H6.out.2.1.cell 0; have mE1 : w4.cell? ⟨(w.heap.size + 1), 1, none⟩ = some (.int .i64 of) := H6.out.2.1.cell 1; have mE2 : w4.cell? ⟨(w.heap.size + 1), 2, none⟩ = some (.int .i64 dir) := H6.out.2.1.cell 2))
    have HI : Hid (∀ W b1, VOwn b1 68 2 W (.slice (some ⟨b1, 0, none⟩) n n) n (intF K) → Calls Try.prog 27 #[.agg #[.int .i64 sec, .slice (some ⟨b1, 0, none⟩) n n], .agg #[.int .i64 op, .int .i64 of, .int .i64 dir]] W fun e w' => e = .returned (.bool (decide (layOk sec n K = 0) && evB sec n op of dir)) ∧ Below W.heap.size W w') := fun W b1 hv => evI sec _ n n K op of dir W hn (hv.vs.le (Nat.zero_le _))
    generalize (decide (layOk sec n K = 0) && evB sec n op of dir) = ans at *
    clear hb2 hb3 hb4 o2
    clear dA0 dA1 dE0 dE1 dE2
    clear mA0 mA1 mE0 mE1 mE2
    have uA0 : w4.cell? ⟨w.heap.size, 0, none⟩ = some (.int .i64 sec) := H6.out.1.cell 0
    have uA1 : w4.cell? ⟨w.heap.size, 1, none⟩ = some (.slice a n cap) := H6.out.1.cell 1
    have ultA : w.heap.size < w4.heap.size := H6.out.1.lt
    go_wp2_with fail
    clear uA0 uA1 ultA
    refine (toLayout sec a n cap K _ hn (HE.out.mono (Nat.le_refl _) H6.out.2.2 (Nat.le_refl _))).mono ?_
    rintro e w5 ⟨b2, hkb2, rfl, o5, hb5⟩
    have zb2 : b2 < w5.heap.size := (o5.lt rfl).2
    have H7 : Hid (Box w5 w.heap.size 24 #[.int .i64 sec, .slice a n cap] ∧ Box w5 (w.heap.size + 1) 47 #[.int .i64 op, .int .i64 of, .int .i64 dir] ∧ Below w.heap.size w w5 ∧ VOwn b2 68 2 w5 (.slice (some ⟨b2, 0, none⟩) n n) n (intF K)) := ⟨H6.out.1.mono hb5 (Nat.le_refl _), H6.out.2.1.mono hb5 (Nat.le_refl _), H6.out.2.2.trans (hb5.mono H6.out.2.2.size), o5⟩
    clear H6 hb5 o5
    go_wp2_with fail
    have bb := bel1 w5 (.cells #[.int .i64 sec, .slice (some ⟨b2, 0, none⟩) n n] 29)
    have H8 : Hid (Box (w5.alloc (.cells #[.int .i64 sec, .slice (some ⟨b2, 0, none⟩) n n] 29)) w.heap.size 24 #[.int .i64 sec, .slice a n cap] ∧ Box (w5.alloc (.cells #[.int .i64 sec, .slice (some ⟨b2, 0, none⟩) n n] 29)) (w.heap.size + 1) 47 #[.int .i64 op, .int .i64 of, .int .i64 dir] ∧ Below w.heap.size w (w5.alloc (.cells #[.int .i64 sec, .slice (some ⟨b2, 0, none⟩) n n] 29)) ∧ VOwn b2 68 2 (w5.alloc (.cells #[.int .i64 sec, .slice (some ⟨b2, 0, none⟩) n n] 29)) (.slice (some ⟨b2, 0, none⟩) n n) n (intF K) ∧ Box (w5.alloc (.cells #[.int .i64 sec, .slice (some ⟨b2, 0, none⟩) n n] 29)) w5.heap.size 29 #[.int .i64 sec, .slice (some ⟨b2, 0, none⟩) n n]) := ⟨H7.out.1.mono bb (Nat.le_refl _), H7.out.2.1.mono bb (Nat.le_refl _), H7.out.2.2.1.trans (bb.mono H7.out.2.2.1.size), H7.out.2.2.2.mono (Nat.le_refl _) bb (Nat.le_refl _), Box.new w5 29 #[.int .i64 sec, .slice (some ⟨b2, 0, none⟩) n n]⟩
    clear H7 bb
    have H9 : Hid (Box (w5.alloc (.cells #[.int .i64 sec, .slice (some ⟨b2, 0, none⟩) n n] 29)).drew w.heap.size 24 #[.int .i64 sec, .slice a n cap] ∧ Box (w5.alloc (.cells #[.int .i64 sec, .slice (some ⟨b2, 0, none⟩) n n] 29)).drew (w.heap.size + 1) 47 #[.int .i64 op, .int .i64 of, .int .i64 dir] ∧ Below w.heap.size w (w5.alloc (.cells #[.int .i64 sec, .slice (some ⟨b2, 0, none⟩) n n] 29)).drew ∧ VOwn b2 68 2 (w5.alloc (.cells #[.int .i64 sec, .slice (some ⟨b2, 0, none⟩) n n] 29)).drew (.slice (some ⟨b2, 0, none⟩) n n) n (intF K) ∧ Box (w5.alloc (.cells #[.int .i64 sec, .slice (some ⟨b2, 0, none⟩) n n] 29)).drew w5.heap.size 29 #[.int .i64 sec, .slice (some ⟨b2, 0, none⟩) n n]) := ⟨H8.out.1.drew, H8.out.2.1.drew, H8.out.2.2.1.drew, H8.out.2.2.2.1.drew, H8.out.2.2.2.2.drew⟩
    clear H8
    have dX0 : (w5.alloc (.cells #[.int .i64 sec, .slice (some ⟨b2, 0, none⟩) n n] 29)).drew.cell? ⟨w5.heap.size, 0, none⟩ = some (.int .i64 sec) := H9.out.2.2.2.2.cell 0
    have dX1 : (w5.alloc (.cells #[.int .i64 sec, .slice (some ⟨b2, 0, none⟩) n n] 29)).drew.cell? ⟨w5.heap.size, 1, none⟩ = some (.slice (some ⟨b2, 0, none⟩) n n) := H9.out.2.2.2.2.cell 1
    have dE0 : (w5.alloc (.cells #[.int .i64 sec, .slice (some ⟨b2, 0, none⟩) n n] 29)).drew.cell? ⟨(w.heap.size + 1), 0, none⟩ = some (.int .i64 op) := H9.out.2.1.cell 0
    have dE1 : (w5.alloc (.cells #[.int .i64 sec, .slice (some ⟨b2, 0, none⟩) n n] 29)).drew.cell? ⟨(w.heap.size + 1), 1, none⟩ = some (.int .i64 of) := H9.out.2.1.cell 1
    have dE2 : (w5.alloc (.cells #[.int .i64 sec, .slice (some ⟨b2, 0, none⟩) n n] 29)).drew.cell? ⟨(w.heap.size + 1), 2, none⟩ = some (.int .i64 dir) := H9.out.2.1.cell 2
    have zX : w5.heap.size < (w5.alloc (.cells #[.int .i64 sec, .slice (some ⟨b2, 0, none⟩) n n] 29)).drew.heap.size := H9.out.2.2.2.2.lt
    go_region_held3 (fun w' => w'.cell? ⟨w5.heap.size, 0, none⟩ = some (.int .i64 sec) ∧ w'.cell? ⟨w5.heap.size, 1, none⟩ = some (.slice (some ⟨b2, 0, none⟩) n n) ∧ w'.cell? ⟨(w.heap.size + 1), 0, none⟩ = some (.int .i64 op) ∧ w'.cell? ⟨(w.heap.size + 1), 1, none⟩ = some (.int .i64 of) ∧ w'.cell? ⟨(w.heap.size + 1), 2, none⟩ = some (.int .i64 dir)) (go_keep) (first
      | (go_at_call 26; refine (toCountEvent op of dir _).mono ?_; rintro e w6 ⟨rfl, hb6⟩; have H10 : Hid (Box w6 w.heap.size 24 #[.int .i64 sec, .slice a n cap] ∧ Box w6 (w.heap.size + 1) 47 #[.int .i64 op, .int .i64 of, .int .i64 dir] ∧ Below w.heap.size w w6 ∧ VOwn b2 68 2 w6 (.slice (some ⟨b2, 0, none⟩) n n) n (intF K) ∧ Box w6 w5.heap.size 29 #[.int .i64 sec, .slice (some ⟨b2, 0, none⟩) n n]) := ⟨H9.out.1.mono hb6 (Nat.le_refl _), H9.out.2.1.mono hb6 (Nat.le_refl _), H9.out.2.2.1.trans (hb6.mono H9.out.2.2.1.size), H9.out.2.2.2.1.mono (Nat.le_refl _) hb6 (Nat.le_refl _), H9.out.2.2.2.2.mono hb6 (Nat.le_refl _)⟩; have mX0 : w6.cell? ⟨w5.heap.size, 0, none⟩ = some (.int .i64 sec) := H10.out.2.2.2.2.cell 0; have mX1 : w6.cell? ⟨w5.heap.size, 1, none⟩ = some (.slice (some ⟨b2, 0, none⟩) n n) := H10.out.2.2.2.2.cell 1; have mE0 : w6.cell? ⟨(w.heap.size + 1), 0, none⟩ = some (.int .i64 op) := H10.out.2.1.cell 0; have mE1 : w6.cell? ⟨(w.heap.size + 1), 1, none⟩ = some (.int .i64 of) := H10.out.2.1.cell 1; have mE2 : w6.cell? ⟨(w.heap.size + 1), 2, none⟩ = some (.int .i64 dir) := H10.out.2.1.cell 2)
      | (go_at_call 27; refine (HI.out _ b2 H10.out.2.2.2.1).mono ?_; rintro e w7 ⟨rfl, hb7⟩; have H11 : Hid (Box w7 w.heap.size 24 #[.int .i64 sec, .slice a n cap] ∧ Box w7 (w.heap.size + 1) 47 #[.int .i64 op, .int .i64 of, .int .i64 dir] ∧ Below w.heap.size w w7 ∧ VOwn b2 68 2 w7 (.slice (some ⟨b2, 0, none⟩) n n) n (intF K) ∧ Box w7 w5.heap.size 29 #[.int .i64 sec, .slice (some ⟨b2, 0, none⟩) n n]) := ⟨H10.out.1.mono hb7 (Nat.le_refl _), H10.out.2.1.mono hb7 (Nat.le_refl _), H10.out.2.2.1.trans (hb7.mono H10.out.2.2.1.size), H10.out.2.2.2.1.mono (Nat.le_refl _) hb7 (Nat.le_refl _), H10.out.2.2.2.2.mono hb7 (Nat.le_refl _)⟩; have mX0 : w7.cell? ⟨w5.heap.size, 0, none⟩ = some (.int .i64 sec) := H11.out.2.2.2.2.cell 0; have mX1 : w7.cell? ⟨w5.heap.size, 1, none⟩ = some (.slice (some ⟨b2, 0, none⟩) n n) := H11.out.2.2.2.2.cell 1; have mE0 : w7.cell? ⟨(w.heap.size + 1), 0, none⟩ = some (.int .i64 op) := H11.out.2.1.cell 0; have mE1 : w7.cell? ⟨(w.heap.size + 1), 1, none⟩ = some (.int .i64 of) := H11.out.2.1.cell 1; have mE2 : w7.cell? ⟨(w.heap.size + 1), 2, none⟩ = some (.int .i64 dir) := H11.out.2.1.cell 2))
    clear hb6 hb7
    clear dX0 dX1 dE0 dE1 dE2
    clear mX0 mX1 mE0 mE1 mE2
    have uA0 : w7.cell? ⟨w.heap.size, 0, none⟩ = some (.int .i64 sec) := H11.out.1.cell 0
    have uA1 : w7.cell? ⟨w.heap.size, 1, none⟩ = some (.slice a n cap) := H11.out.1.cell 1
    have uX0 : w7.cell? ⟨w5.heap.size, 0, none⟩ = some (.int .i64 sec) := H11.out.2.2.2.2.cell 0
    have uX1 : w7.cell? ⟨w5.heap.size, 1, none⟩ = some (.slice (some ⟨b2, 0, none⟩) n n) := H11.out.2.2.2.2.cell 1
    have ultA : w.heap.size < w7.heap.size := H11.out.1.lt
    have ultX : w5.heap.size < w7.heap.size := H11.out.2.2.2.2.lt
    go_wp2_with fail
    clear uA0 uA1 uX0 uX1 ultA ultX
    have H12 : Hid (Box w7.drew w.heap.size 24 #[.int .i64 sec, .slice a n cap] ∧ Box w7.drew (w.heap.size + 1) 47 #[.int .i64 op, .int .i64 of, .int .i64 dir] ∧ Below w.heap.size w w7.drew ∧ VOwn b2 68 2 w7.drew (.slice (some ⟨b2, 0, none⟩) n n) n (intF K) ∧ Box w7.drew w5.heap.size 29 #[.int .i64 sec, .slice (some ⟨b2, 0, none⟩) n n]) := ⟨H11.out.1.drew, H11.out.2.1.drew, H11.out.2.2.1.drew, H11.out.2.2.2.1.drew, H11.out.2.2.2.2.drew⟩
    clear H11
    have dA0 : w7.drew.cell? ⟨w.heap.size, 0, none⟩ = some (.int .i64 sec) := H12.out.1.cell 0
    have dA1 : w7.drew.cell? ⟨w.heap.size, 1, none⟩ = some (.slice a n cap) := H12.out.1.cell 1
    have dX0 : w7.drew.cell? ⟨w5.heap.size, 0, none⟩ = some (.int .i64 sec) := H12.out.2.2.2.2.cell 0
    have dX1 : w7.drew.cell? ⟨w5.heap.size, 1, none⟩ = some (.slice (some ⟨b2, 0, none⟩) n n) := H12.out.2.2.2.2.cell 1
    go_region_held3 (fun w' => w'.cell? ⟨w.heap.size, 0, none⟩ = some (.int .i64 sec) ∧ w'.cell? ⟨w.heap.size, 1, none⟩ = some (.slice a n cap) ∧ w'.cell? ⟨w5.heap.size, 0, none⟩ = some (.int .i64 sec) ∧ w'.cell? ⟨w5.heap.size, 1, none⟩ = some (.slice (some ⟨b2, 0, none⟩) n n)) (go_keep) (first
      | (go_at_call 11; refine (toLayout sec a n cap K _ hn (HE.out.mono (Nat.le_refl _) H12.out.2.2.1 (Nat.le_refl _))).mono ?_; rintro e w8 ⟨b3, hkb3, rfl, o8, hb8⟩; have H13 : Hid (Box w8 w.heap.size 24 #[.int .i64 sec, .slice a n cap] ∧ Box w8 (w.heap.size + 1) 47 #[.int .i64 op, .int .i64 of, .int .i64 dir] ∧ Below w.heap.size w w8 ∧ VOwn b2 68 2 w8 (.slice (some ⟨b2, 0, none⟩) n n) n (intF K) ∧ Box w8 w5.heap.size 29 #[.int .i64 sec, .slice (some ⟨b2, 0, none⟩) n n] ∧ VOwn b3 68 2 w8 (.slice (some ⟨b3, 0, none⟩) n n) n (intF K)) := ⟨H12.out.1.mono hb8 (Nat.le_refl _), H12.out.2.1.mono hb8 (Nat.le_refl _), H12.out.2.2.1.trans (hb8.mono H12.out.2.2.1.size), H12.out.2.2.2.1.mono (Nat.le_refl _) hb8 (Nat.le_refl _), H12.out.2.2.2.2.mono hb8 (Nat.le_refl _), o8⟩; have mA0 : w8.cell? ⟨w.heap.size, 0, none⟩ = some (.int .i64 sec) := H13.out.1.cell 0; have mA1 : w8.cell? ⟨w.heap.size, 1, none⟩ = some (.slice a n cap) := H13.out.1.cell 1; have mX0 : w8.cell? ⟨w5.heap.size, 0, none⟩ = some (.int .i64 sec) := H13.out.2.2.2.2.1.cell 0; have mX1 : w8.cell? ⟨w5.heap.size, 1, none⟩ = some (.slice (some ⟨b2, 0, none⟩) n n) := H13.out.2.2.2.2.1.cell 1)
      | (go_at_call 13; refine (eqLayout sec (some ⟨b2, 0, none⟩) (some ⟨b3, 0, none⟩) n n n K _ hn (H13.out.2.2.2.1.vs.le (Nat.zero_le _)) (H13.out.2.2.2.2.2.vs.le (Nat.zero_le _))).mono ?_; rintro e w9 ⟨rfl, hb9⟩; have H14 : Hid (Box w9 w.heap.size 24 #[.int .i64 sec, .slice a n cap] ∧ Box w9 (w.heap.size + 1) 47 #[.int .i64 op, .int .i64 of, .int .i64 dir] ∧ Below w.heap.size w w9 ∧ VOwn b2 68 2 w9 (.slice (some ⟨b2, 0, none⟩) n n) n (intF K) ∧ Box w9 w5.heap.size 29 #[.int .i64 sec, .slice (some ⟨b2, 0, none⟩) n n] ∧ VOwn b3 68 2 w9 (.slice (some ⟨b3, 0, none⟩) n n) n (intF K)) := ⟨H13.out.1.mono hb9 (Nat.le_refl _), H13.out.2.1.mono hb9 (Nat.le_refl _), H13.out.2.2.1.trans (hb9.mono H13.out.2.2.1.size), H13.out.2.2.2.1.mono (Nat.le_refl _) hb9 (Nat.le_refl _), H13.out.2.2.2.2.1.mono hb9 (Nat.le_refl _), H13.out.2.2.2.2.2.mono (Nat.le_refl _) hb9 (Nat.le_refl _)⟩; have mA0 : w9.cell? ⟨w.heap.size, 0, none⟩ = some (.int .i64 sec) := H14.out.1.cell 0; have mA1 : w9.cell? ⟨w.heap.size, 1, none⟩ = some (.slice a n cap) := H14.out.1.cell 1; have mX0 : w9.cell? ⟨w5.heap.size, 0, none⟩ = some (.int .i64 sec) := H14.out.2.2.2.2.1.cell 0; have mX1 : w9.cell? ⟨w5.heap.size, 1, none⟩ = some (.slice (some ⟨b2, 0, none⟩) n n) := H14.out.2.2.2.2.1.cell 1))
    go_wp2_with fail
    go_ret
    exact ⟨rfl, H14.out.2.2.1⟩

end Go.Proofs.Ytmcaohablpaknaa
