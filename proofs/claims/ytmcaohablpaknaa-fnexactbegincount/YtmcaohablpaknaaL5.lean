import Derived.Test.YtmcaohablpaknaaLh
import Derived.Deep.RegionHeld3
namespace Go.Proofs.Ytmcaohablpaknaa
open Go.RowKit

set_option maxRecDepth 100000 in
set_option maxHeartbeats 8000000 in
theorem law5 (sec : Int) (a : Option Addr) (n cap : Nat) (K : Nat → Nat → Int) (w : World) (hs : n ≤ maxLen) (hE : VsAt 2 0 w a n (intF K)) :
    Calls Try.prog 5 #[.agg #[.int .i64 sec, .slice a n cap]] w fun e w' => e = .returned (.bool true) ∧ Below w.heap.size w w' := by
  have HE : Hid (VsAt 2 0 w a n (intF K)) := hE
  clear hE
  go_enter Try.func5, Try.ntmps5
  go_wp2_with fail
  have H1 : Hid (Box (w.alloc (.cells #[.int .i64 sec, .slice a n cap] 24)) w.heap.size 24 #[.int .i64 sec, .slice a n cap] ∧ Below w.heap.size w (w.alloc (.cells #[.int .i64 sec, .slice a n cap] 24))) := ⟨(Box.new' w 24 #[.int .i64 sec, .slice a n cap] (by simp)), bel1 w (.cells #[.int .i64 sec, .slice a n cap] 24)⟩
  refine (szLayout sec a n cap 1048576 _ hs (by omega) (by omega)).mono ?_
  rintro e w1 ⟨rfl, hb1⟩
  have hp := @szL_pos 1048576 n
  generalize szL 1048576 n = r at hp
  have H2 : Hid (Box w1 w.heap.size 24 #[.int .i64 sec, .slice a n cap] ∧ Below w.heap.size w w1) := ⟨H1.out.1.mono hb1 (Nat.le_refl _), H1.out.2.trans (hb1.mono H1.out.2.size)⟩
  clear H1 hb1
  by_cases hneg : r < 0
  · clear hp
    go_wp2_with fail
    go_ret
    exact ⟨rfl, H2.out.2⟩
  · have hn : n ≤ 1048576 := by have := (hp hneg).1; omega
    clear hp
    obtain ⟨ok0, ns, nd, hns, hnd, HI, HS⟩ : ∃ (ok0 : Bool) (ns nd : Nat), ns ≤ 60 ∧ nd ≤ 120 ∧ Hid (∀ W b1, VOwn b1 68 2 W (.slice (some ⟨b1, 0, none⟩) n n) n (intF K) → Calls Try.prog 21 #[.agg #[.int .i64 sec, .slice (some ⟨b1, 0, none⟩) n n]] W fun e w' => ∃ sa sc da dc, e = .returned (.agg #[.bool ok0, .slice sa ns sc, .slice da nd dc]) ∧ StOwn W.heap.size w' sa sc da dc ns nd (fun _ => sec0) (fun _ => false) ∧ Below W.heap.size W w') ∧ Hid (∀ W b1, VOwn b1 68 2 W (.slice (some ⟨b1, 0, none⟩) n n) n (intF K) → Calls Try.prog 20 #[.agg #[.int .i64 sec, .slice (some ⟨b1, 0, none⟩) n n]] W fun e w' => ∃ sa sc da dc, e = .returned (.agg #[.bool ok0, .slice sa ns sc, .slice da nd dc]) ∧ StOwn W.heap.size w' sa sc da dc ns nd (fun _ => sec0) (fun _ => false) ∧ Below W.heap.size W w') := ⟨_, _, _, bNs_le sec n K, bNd_le sec n K, fun W b1 hv => begI sec _ n n K W hn (hv.vs.le (Nat.zero_le _)), fun W b1 hv => begS sec _ n n K W hn (hv.vs.le (Nat.zero_le _))⟩
    have hns2 : ns ≤ 1048576 := by omega
    have hnd2 : nd ≤ 1048576 := by omega
    have uA0 : w1.cell? ⟨w.heap.size, 0, none⟩ = some (.int .i64 sec) := H2.out.1.cell 0
    have uA1 : w1.cell? ⟨w.heap.size, 1, none⟩ = some (.slice a n cap) := H2.out.1.cell 1
    have ultA : w.heap.size < w1.heap.size := H2.out.1.lt
    go_wp2_with fail
    clear uA0 uA1 ultA
    refine (toLayout sec a n cap K _ hn (HE.out.mono (Nat.le_refl _) H2.out.2 (Nat.le_refl _))).mono ?_
    rintro e w2 ⟨b1, hkb1, rfl, o2, hb2⟩
    have zb1 : b1 < w2.heap.size := (o2.lt rfl).2
    have H3 : Hid (Box w2 w.heap.size 24 #[.int .i64 sec, .slice a n cap] ∧ Below w.heap.size w w2 ∧ VOwn b1 68 2 w2 (.slice (some ⟨b1, 0, none⟩) n n) n (intF K)) := ⟨H2.out.1.mono hb2 (Nat.le_refl _), H2.out.2.trans (hb2.mono H2.out.2.size), o2⟩
    clear H2 hb2 o2
    go_wp2_with fail
    refine (HS.out _ b1 H3.out.2.2).mono ?_
    rintro e w3 ⟨psa, psc, pda, pdc, rfl, o3, hb3⟩
    have H4 : Hid (Box w3 w.heap.size 24 #[.int .i64 sec, .slice a n cap] ∧ Below w.heap.size w w3 ∧ StOwn w2.heap.size w3 psa psc pda pdc ns nd (fun _ => sec0) (fun _ => false)) := ⟨H3.out.1.mono hb3 (Nat.le_refl _), H3.out.2.1.trans (hb3.mono H3.out.2.1.size), o3⟩
    clear H3 hb3 o3
    have HZ3 : Hid (w.heap.size < w3.heap.size) := H4.out.1.lt
    have hst0 : Hid (∀ g, OwnB (.slice psa ns psc) (.slice pda nd pdc) g → g < w3.heap.size) := fun g hg => (H4.out.2.2.lt hg).2
    have uA0 : w3.cell? ⟨w.heap.size, 0, none⟩ = some (.int .i64 sec) := H4.out.1.cell 0
    have uA1 : w3.cell? ⟨w.heap.size, 1, none⟩ = some (.slice a n cap) := H4.out.1.cell 1
    have ultA : w.heap.size < w3.heap.size := H4.out.1.lt
    go_wp2_with fail
    clear uA0 uA1 ultA
    have bb := bel1 w3 (.cells #[.bool ok0, .slice psa ns psc, .slice pda nd pdc] 42)
    have H5 : Hid (Box (w3.alloc (.cells #[.bool ok0, .slice psa ns psc, .slice pda nd pdc] 42)) w.heap.size 24 #[.int .i64 sec, .slice a n cap] ∧ Below w.heap.size w (w3.alloc (.cells #[.bool ok0, .slice psa ns psc, .slice pda nd pdc] 42)) ∧ StOwn w2.heap.size (w3.alloc (.cells #[.bool ok0, .slice psa ns psc, .slice pda nd pdc] 42)) psa psc pda pdc ns nd (fun _ => sec0) (fun _ => false) ∧ Box (w3.alloc (.cells #[.bool ok0, .slice psa ns psc, .slice pda nd pdc] 42)) w3.heap.size 42 #[.bool ok0, .slice psa ns psc, .slice pda nd pdc]) := ⟨H4.out.1.mono bb (Nat.le_refl _), H4.out.2.1.trans (bb.mono H4.out.2.1.size), H4.out.2.2.mono (Nat.le_refl _) bb (Nat.le_refl _), Box.new w3 42 #[.bool ok0, .slice psa ns psc, .slice pda nd pdc]⟩
    clear H4 bb
    refine (toLayout sec a n cap K _ hn (HE.out.mono (Nat.le_refl _) H5.out.2.1 (Nat.le_refl _))).mono ?_
    rintro e w4 ⟨b2, hkb2, rfl, o4, hb4⟩
    have zb2 : b2 < w4.heap.size := (o4.lt rfl).2
    have H6 : Hid (Box w4 w.heap.size 24 #[.int .i64 sec, .slice a n cap] ∧ Below w.heap.size w w4 ∧ StOwn w2.heap.size w4 psa psc pda pdc ns nd (fun _ => sec0) (fun _ => false) ∧ Box w4 w3.heap.size 42 #[.bool ok0, .slice psa ns psc, .slice pda nd pdc] ∧ VOwn b2 68 2 w4 (.slice (some ⟨b2, 0, none⟩) n n) n (intF K)) := ⟨H5.out.1.mono hb4 (Nat.le_refl _), H5.out.2.1.trans (hb4.mono H5.out.2.1.size), H5.out.2.2.1.mono (Nat.le_refl _) hb4 (Nat.le_refl _), H5.out.2.2.2.mono hb4 (Nat.le_refl _), o4⟩
    clear H5 hb4 o4
    have hkb2 : w3.heap.size + 1 ≤ b2 := by simpa using hkb2
    have za : w.heap.size < w3.heap.size := Nat.lt_of_lt_of_le HZ3.out (Nat.le_refl _)
    go_wp2_with fail
    have bb := bel1 w4 (.cells #[.int .i64 sec, .slice (some ⟨b2, 0, none⟩) n n] 29)
    have H7 : Hid (Box (w4.alloc (.cells #[.int .i64 sec, .slice (some ⟨b2, 0, none⟩) n n] 29)) w.heap.size 24 #[.int .i64 sec, .slice a n cap] ∧ Below w.heap.size w (w4.alloc (.cells #[.int .i64 sec, .slice (some ⟨b2, 0, none⟩) n n] 29)) ∧ StOwn w2.heap.size (w4.alloc (.cells #[.int .i64 sec, .slice (some ⟨b2, 0, none⟩) n n] 29)) psa psc pda pdc ns nd (fun _ => sec0) (fun _ => false) ∧ Box (w4.alloc (.cells #[.int .i64 sec, .slice (some ⟨b2, 0, none⟩) n n] 29)) w3.heap.size 42 #[.bool ok0, .slice psa ns psc, .slice pda nd pdc] ∧ VOwn b2 68 2 (w4.alloc (.cells #[.int .i64 sec, .slice (some ⟨b2, 0, none⟩) n n] 29)) (.slice (some ⟨b2, 0, none⟩) n n) n (intF K) ∧ Box (w4.alloc (.cells #[.int .i64 sec, .slice (some ⟨b2, 0, none⟩) n n] 29)) w4.heap.size 29 #[.int .i64 sec, .slice (some ⟨b2, 0, none⟩) n n]) := ⟨H6.out.1.mono bb (Nat.le_refl _), H6.out.2.1.trans (bb.mono H6.out.2.1.size), H6.out.2.2.1.mono (Nat.le_refl _) bb (Nat.le_refl _), H6.out.2.2.2.1.mono bb (Nat.le_refl _), H6.out.2.2.2.2.mono (Nat.le_refl _) bb (Nat.le_refl _), Box.new w4 29 #[.int .i64 sec, .slice (some ⟨b2, 0, none⟩) n n]⟩
    clear H6 bb
    refine (HI.out _ b2 H7.out.2.2.2.2.1).mono ?_
    rintro e w5 ⟨gsa, gsc, gda, gdc, rfl, o5, hb5⟩
    have H8 : Hid (Box w5 w.heap.size 24 #[.int .i64 sec, .slice a n cap] ∧ Below w.heap.size w w5 ∧ StOwn w2.heap.size w5 psa psc pda pdc ns nd (fun _ => sec0) (fun _ => false) ∧ Box w5 w3.heap.size 42 #[.bool ok0, .slice psa ns psc, .slice pda nd pdc] ∧ VOwn b2 68 2 w5 (.slice (some ⟨b2, 0, none⟩) n n) n (intF K) ∧ Box w5 w4.heap.size 29 #[.int .i64 sec, .slice (some ⟨b2, 0, none⟩) n n] ∧ StOwn (w4.alloc (.cells #[.int .i64 sec, .slice (some ⟨b2, 0, none⟩) n n] 29)).heap.size w5 gsa gsc gda gdc ns nd (fun _ => sec0) (fun _ => false)) := ⟨H7.out.1.mono hb5 (Nat.le_refl _), H7.out.2.1.trans (hb5.mono H7.out.2.1.size), H7.out.2.2.1.mono (Nat.le_refl _) hb5 (Nat.le_refl _), H7.out.2.2.2.1.mono hb5 (Nat.le_refl _), H7.out.2.2.2.2.1.mono (Nat.le_refl _) hb5 (Nat.le_refl _), H7.out.2.2.2.2.2.mono hb5 (Nat.le_refl _), o5⟩
    clear H7 hb5 o5
    have hglo : Hid (∀ g, OwnB (.slice gsa ns gsc) (.slice gda nd gdc) g → w4.heap.size + 1 ≤ g ∧ g < w5.heap.size) := fun g hg => by have := H8.out.2.2.2.2.2.2.lt hg; simpa using this
    have zx : w4.heap.size < w5.heap.size := H8.out.2.2.2.2.2.1.lt
    have uV0 : w5.cell? ⟨w3.heap.size, 0, none⟩ = some (.bool ok0) := H8.out.2.2.2.1.cell 0
    have uV1 : w5.cell? ⟨w3.heap.size, 1, none⟩ = some (.slice psa ns psc) := H8.out.2.2.2.1.cell 1
    have uV2 : w5.cell? ⟨w3.heap.size, 2, none⟩ = some (.slice pda nd pdc) := H8.out.2.2.2.1.cell 2
    have ultV : w3.heap.size < w5.heap.size := H8.out.2.2.2.1.lt
    go_wp2_with fail
    clear uV0 uV1 uV2 ultV
    have bb := bel1 w5 (.cells #[.bool ok0, .slice gsa ns gsc, .slice gda nd gdc] 42)
    have H9 : Hid (Box (w5.alloc (.cells #[.bool ok0, .slice gsa ns gsc, .slice gda nd gdc] 42)) w.heap.size 24 #[.int .i64 sec, .slice a n cap] ∧ Below w.heap.size w (w5.alloc (.cells #[.bool ok0, .slice gsa ns gsc, .slice gda nd gdc] 42)) ∧ StOwn w2.heap.size (w5.alloc (.cells #[.bool ok0, .slice gsa ns gsc, .slice gda nd gdc] 42)) psa psc pda pdc ns nd (fun _ => sec0) (fun _ => false) ∧ Box (w5.alloc (.cells #[.bool ok0, .slice gsa ns gsc, .slice gda nd gdc] 42)) w3.heap.size 42 #[.bool ok0, .slice psa ns psc, .slice pda nd pdc] ∧ VOwn b2 68 2 (w5.alloc (.cells #[.bool ok0, .slice gsa ns gsc, .slice gda nd gdc] 42)) (.slice (some ⟨b2, 0, none⟩) n n) n (intF K) ∧ Box (w5.alloc (.cells #[.bool ok0, .slice gsa ns gsc, .slice gda nd gdc] 42)) w4.heap.size 29 #[.int .i64 sec, .slice (some ⟨b2, 0, none⟩) n n] ∧ StOwn (w4.alloc (.cells #[.int .i64 sec, .slice (some ⟨b2, 0, none⟩) n n] 29)).heap.size (w5.alloc (.cells #[.bool ok0, .slice gsa ns gsc, .slice gda nd gdc] 42)) gsa gsc gda gdc ns nd (fun _ => sec0) (fun _ => false) ∧ Box (w5.alloc (.cells #[.bool ok0, .slice gsa ns gsc, .slice gda nd gdc] 42)) w5.heap.size 42 #[.bool ok0, .slice gsa ns gsc, .slice gda nd gdc]) := ⟨H8.out.1.mono bb (Nat.le_refl _), H8.out.2.1.trans (bb.mono H8.out.2.1.size), H8.out.2.2.1.mono (Nat.le_refl _) bb (Nat.le_refl _), H8.out.2.2.2.1.mono bb (Nat.le_refl _), H8.out.2.2.2.2.1.mono (Nat.le_refl _) bb (Nat.le_refl _), H8.out.2.2.2.2.2.1.mono bb (Nat.le_refl _), H8.out.2.2.2.2.2.2.mono (Nat.le_refl _) bb (Nat.le_refl _), Box.new w5 42 #[.bool ok0, .slice gsa ns gsc, .slice gda nd gdc]⟩
    clear H8 bb
    refine (eqCountState ok0 gsa gda psa pda ns nd gsc gdc psc pdc (fun _ => sec0) (fun _ => false) _ hns2 hnd2 (H9.out.2.2.2.2.2.2.1.s.vs.le (Nat.zero_le _)) (H9.out.2.2.2.2.2.2.1.d.vs.le (Nat.zero_le _)) (H9.out.2.2.1.s.vs.le (Nat.zero_le _)) (H9.out.2.2.1.d.vs.le (Nat.zero_le _))).mono ?_
    rintro e w6 ⟨rfl, hb6⟩
    have H10 : Hid (Box w6 w.heap.size 24 #[.int .i64 sec, .slice a n cap] ∧ Below w.heap.size w w6 ∧ StOwn w2.heap.size w6 psa psc pda pdc ns nd (fun _ => sec0) (fun _ => false) ∧ Box w6 w3.heap.size 42 #[.bool ok0, .slice psa ns psc, .slice pda nd pdc] ∧ VOwn b2 68 2 w6 (.slice (some ⟨b2, 0, none⟩) n n) n (intF K) ∧ Box w6 w4.heap.size 29 #[.int .i64 sec, .slice (some ⟨b2, 0, none⟩) n n] ∧ StOwn (w4.alloc (.cells #[.int .i64 sec, .slice (some ⟨b2, 0, none⟩) n n] 29)).heap.size w6 gsa gsc gda gdc ns nd (fun _ => sec0) (fun _ => false) ∧ Box w6 w5.heap.size 42 #[.bool ok0, .slice gsa ns gsc, .slice gda nd gdc]) := ⟨H9.out.1.mono hb6 (Nat.le_refl _), H9.out.2.1.trans (hb6.mono H9.out.2.1.size), H9.out.2.2.1.mono (Nat.le_refl _) hb6 (Nat.le_refl _), H9.out.2.2.2.1.mono hb6 (Nat.le_refl _), H9.out.2.2.2.2.1.mono (Nat.le_refl _) hb6 (Nat.le_refl _), H9.out.2.2.2.2.2.1.mono hb6 (Nat.le_refl _), H9.out.2.2.2.2.2.2.1.mono (Nat.le_refl _) hb6 (Nat.le_refl _), H9.out.2.2.2.2.2.2.2.mono hb6 (Nat.le_refl _)⟩
    clear H9 hb6
    have uA0 : w6.cell? ⟨w.heap.size, 0, none⟩ = some (.int .i64 sec) := H10.out.1.cell 0
    have uA1 : w6.cell? ⟨w.heap.size, 1, none⟩ = some (.slice a n cap) := H10.out.1.cell 1
    have uX0 : w6.cell? ⟨w4.heap.size, 0, none⟩ = some (.int .i64 sec) := H10.out.2.2.2.2.2.1.cell 0
    have uX1 : w6.cell? ⟨w4.heap.size, 1, none⟩ = some (.slice (some ⟨b2, 0, none⟩) n n) := H10.out.2.2.2.2.2.1.cell 1
    have ultA : w.heap.size < w6.heap.size := H10.out.1.lt
    have ultX : w4.heap.size < w6.heap.size := H10.out.2.2.2.2.2.1.lt
    go_wp2_with fail
    clear uA0 uA1 uX0 uX1 ultA ultX
    have H11 : Hid (Box w6.drew w.heap.size 24 #[.int .i64 sec, .slice a n cap] ∧ Below w.heap.size w w6.drew ∧ StOwn w2.heap.size w6.drew psa psc pda pdc ns nd (fun _ => sec0) (fun _ => false) ∧ Box w6.drew w3.heap.size 42 #[.bool ok0, .slice psa ns psc, .slice pda nd pdc] ∧ VOwn b2 68 2 w6.drew (.slice (some ⟨b2, 0, none⟩) n n) n (intF K) ∧ Box w6.drew w4.heap.size 29 #[.int .i64 sec, .slice (some ⟨b2, 0, none⟩) n n] ∧ StOwn (w4.alloc (.cells #[.int .i64 sec, .slice (some ⟨b2, 0, none⟩) n n] 29)).heap.size w6.drew gsa gsc gda gdc ns nd (fun _ => sec0) (fun _ => false) ∧ Box w6.drew w5.heap.size 42 #[.bool ok0, .slice gsa ns gsc, .slice gda nd gdc]) := ⟨H10.out.1.drew, H10.out.2.1.drew, H10.out.2.2.1.drew, H10.out.2.2.2.1.drew, H10.out.2.2.2.2.1.drew, H10.out.2.2.2.2.2.1.drew, H10.out.2.2.2.2.2.2.1.drew, H10.out.2.2.2.2.2.2.2.drew⟩
    clear H10
    have dA0 : w6.drew.cell? ⟨w.heap.size, 0, none⟩ = some (.int .i64 sec) := H11.out.1.cell 0
    have dA1 : w6.drew.cell? ⟨w.heap.size, 1, none⟩ = some (.slice a n cap) := H11.out.1.cell 1
    have dX0 : w6.drew.cell? ⟨w4.heap.size, 0, none⟩ = some (.int .i64 sec) := H11.out.2.2.2.2.2.1.cell 0
    have dX1 : w6.drew.cell? ⟨w4.heap.size, 1, none⟩ = some (.slice (some ⟨b2, 0, none⟩) n n) := H11.out.2.2.2.2.2.1.cell 1
    go_region_held3 (fun w' => w'.cell? ⟨w.heap.size, 0, none⟩ = some (.int .i64 sec) ∧ w'.cell? ⟨w.heap.size, 1, none⟩ = some (.slice a n cap) ∧ w'.cell? ⟨w4.heap.size, 0, none⟩ = some (.int .i64 sec) ∧ w'.cell? ⟨w4.heap.size, 1, none⟩ = some (.slice (some ⟨b2, 0, none⟩) n n)) (go_keep) (first
      | (go_at_call 11; refine (toLayout sec a n cap K _ hn (HE.out.mono (Nat.le_refl _) H11.out.2.1 (Nat.le_refl _))).mono ?_; rintro e w7 ⟨b3, hkb3, rfl, o7, hb7⟩; have H12 : Hid (Box w7 w.heap.size 24 #[.int .i64 sec, .slice a n cap] ∧ Below w.heap.size w w7 ∧ StOwn w2.heap.size w7 psa psc pda pdc ns nd (fun _ => sec0) (fun _ => false) ∧ Box w7 w3.heap.size 42 #[.bool ok0, .slice psa ns psc, .slice pda nd pdc] ∧ VOwn b2 68 2 w7 (.slice (some ⟨b2, 0, none⟩) n n) n (intF K) ∧ Box w7 w4.heap.size 29 #[.int .i64 sec, .slice (some ⟨b2, 0, none⟩) n n] ∧ StOwn (w4.alloc (.cells #[.int .i64 sec, .slice (some ⟨b2, 0, none⟩) n n] 29)).heap.size w7 gsa gsc gda gdc ns nd (fun _ => sec0) (fun _ => false) ∧ Box w7 w5.heap.size 42 #[.bool ok0, .slice gsa ns gsc, .slice gda nd gdc] ∧ VOwn b3 68 2 w7 (.slice (some ⟨b3, 0, none⟩) n n) n (intF K)) := ⟨H11.out.1.mono hb7 (Nat.le_refl _), H11.out.2.1.trans (hb7.mono H11.out.2.1.size), H11.out.2.2.1.mono (Nat.le_refl _) hb7 (Nat.le_refl _), H11.out.2.2.2.1.mono hb7 (Nat.le_refl _), H11.out.2.2.2.2.1.mono (Nat.le_refl _) hb7 (Nat.le_refl _), H11.out.2.2.2.2.2.1.mono hb7 (Nat.le_refl _), H11.out.2.2.2.2.2.2.1.mono (Nat.le_refl _) hb7 (Nat.le_refl _), H11.out.2.2.2.2.2.2.2.mono hb7 (Nat.le_refl _), o7⟩; have mA0 : w7.cell? ⟨w.heap.size, 0, none⟩ = some (.int .i64 sec) := H12.out.1.cell 0; have mA1 : w7.cell? ⟨w.heap.size, 1, none⟩ = some (.slice a n cap) := H12.out.1.cell 1; have mX0 : w7.cell? ⟨w4.heap.size, 0, none⟩ = some (.int .i64 sec) := H12.out.2.2.2.2.2.1.cell 0; have mX1 : w7.cell? ⟨w4.heap.size, 1, none⟩ = some (.slice (some ⟨b2, 0, none⟩) n n) := H12.out.2.2.2.2.2.1.cell 1)
      | (go_at_call 13; refine (eqLayout sec (some ⟨b2, 0, none⟩) (some ⟨b3, 0, none⟩) n n n K _ hn (H12.out.2.2.2.2.1.vs.le (Nat.zero_le _)) (H12.out.2.2.2.2.2.2.2.2.vs.le (Nat.zero_le _))).mono ?_; rintro e w8 ⟨rfl, hb8⟩; have H13 : Hid (Box w8 w.heap.size 24 #[.int .i64 sec, .slice a n cap] ∧ Below w.heap.size w w8 ∧ StOwn w2.heap.size w8 psa psc pda pdc ns nd (fun _ => sec0) (fun _ => false) ∧ Box w8 w3.heap.size 42 #[.bool ok0, .slice psa ns psc, .slice pda nd pdc] ∧ VOwn b2 68 2 w8 (.slice (some ⟨b2, 0, none⟩) n n) n (intF K) ∧ Box w8 w4.heap.size 29 #[.int .i64 sec, .slice (some ⟨b2, 0, none⟩) n n] ∧ StOwn (w4.alloc (.cells #[.int .i64 sec, .slice (some ⟨b2, 0, none⟩) n n] 29)).heap.size w8 gsa gsc gda gdc ns nd (fun _ => sec0) (fun _ => false) ∧ Box w8 w5.heap.size 42 #[.bool ok0, .slice gsa ns gsc, .slice gda nd gdc]) := ⟨H12.out.1.mono hb8 (Nat.le_refl _), H12.out.2.1.trans (hb8.mono H12.out.2.1.size), H12.out.2.2.1.mono (Nat.le_refl _) hb8 (Nat.le_refl _), H12.out.2.2.2.1.mono hb8 (Nat.le_refl _), H12.out.2.2.2.2.1.mono (Nat.le_refl _) hb8 (Nat.le_refl _), H12.out.2.2.2.2.2.1.mono hb8 (Nat.le_refl _), H12.out.2.2.2.2.2.2.1.mono (Nat.le_refl _) hb8 (Nat.le_refl _), H12.out.2.2.2.2.2.2.2.1.mono hb8 (Nat.le_refl _)⟩; have mA0 : w8.cell? ⟨w.heap.size, 0, none⟩ = some (.int .i64 sec) := H13.out.1.cell 0; have mA1 : w8.cell? ⟨w.heap.size, 1, none⟩ = some (.slice a n cap) := H13.out.1.cell 1; have mX0 : w8.cell? ⟨w4.heap.size, 0, none⟩ = some (.int .i64 sec) := H13.out.2.2.2.2.2.1.cell 0; have mX1 : w8.cell? ⟨w4.heap.size, 1, none⟩ = some (.slice (some ⟨b2, 0, none⟩) n n) := H13.out.2.2.2.2.2.1.cell 1))
    clear hb7 hb8 o7
    clear dA0 dA1 dX0 dX1 mA0 mA1 mX0 mX1
    have uX0 : w8.cell? ⟨w4.heap.size, 0, none⟩ = some (.int .i64 sec) := H13.out.2.2.2.2.2.1.cell 0
    have uX1 : w8.cell? ⟨w4.heap.size, 1, none⟩ = some (.slice (some ⟨b2, 0, none⟩) n n) := H13.out.2.2.2.2.2.1.cell 1
    have ultX : w4.heap.size < w8.heap.size := H13.out.2.2.2.2.2.1.lt
    go_wp2_with fail
    clear uX0 uX1 ultX
    refine (markLayoutV sec (some ⟨b2, 0, none⟩) n n 1 b2 (intF K) _ hn (by omega) H13.out.2.2.2.2.1).mono ?_
    rintro e w9 ⟨he, f9⟩
    generalize hk9 : 1 + n * 2 = k9 at he
    subst he
    have H14 : Hid (Box w9 w.heap.size 24 #[.int .i64 sec, .slice a n cap] ∧ Below w.heap.size w w9 ∧ StOwn w2.heap.size w9 psa psc pda pdc ns nd (fun _ => sec0) (fun _ => false) ∧ Box w9 w3.heap.size 42 #[.bool ok0, .slice psa ns psc, .slice pda nd pdc] ∧ Box w9 w4.heap.size 29 #[.int .i64 sec, .slice (some ⟨b2, 0, none⟩) n n] ∧ StOwn (w4.alloc (.cells #[.int .i64 sec, .slice (some ⟨b2, 0, none⟩) n n] 29)).heap.size w9 gsa gsc gda gdc ns nd (fun _ => sec0) (fun _ => false) ∧ Box w9 w5.heap.size 42 #[.bool ok0, .slice gsa ns gsc, .slice gda nd gdc]) := ⟨H13.out.1.fr f9 (fun hq => by simp only [Value.ownBlock, Option.some.injEq] at hq; omega), H13.out.2.1.trans (f9.below H13.out.2.1.size (fun k hk hq => by simp only [Value.ownBlock, Option.some.injEq] at hq; omega)), H13.out.2.2.1.fr f9 (fun g hg hq => by simp only [Value.ownBlock, Option.some.injEq] at hq; have := hst0.out g hg; omega), H13.out.2.2.2.1.fr f9 (fun hq => by simp only [Value.ownBlock, Option.some.injEq] at hq; omega), H13.out.2.2.2.2.2.1.fr f9 (fun hq => by simp only [Value.ownBlock, Option.some.injEq] at hq; omega), H13.out.2.2.2.2.2.2.1.fr f9 (fun g hg hq => by simp only [Value.ownBlock, Option.some.injEq] at hq; have := hglo.out g hg; omega), H13.out.2.2.2.2.2.2.2.fr f9 (fun hq => by simp only [Value.ownBlock, Option.some.injEq] at hq; omega)⟩
    clear H13 f9
    have hk90 : (0 : Int) ≤ (k9 : Int) := by omega
    have uV0 : w9.cell? ⟨w3.heap.size, 0, none⟩ = some (.bool ok0) := H14.out.2.2.2.1.cell 0
    have uV1 : w9.cell? ⟨w3.heap.size, 1, none⟩ = some (.slice psa ns psc) := H14.out.2.2.2.1.cell 1
    have uV2 : w9.cell? ⟨w3.heap.size, 2, none⟩ = some (.slice pda nd pdc) := H14.out.2.2.2.1.cell 2
    have uY0 : w9.cell? ⟨w5.heap.size, 0, none⟩ = some (.bool ok0) := H14.out.2.2.2.2.2.2.cell 0
    have uY1 : w9.cell? ⟨w5.heap.size, 1, none⟩ = some (.slice gsa ns gsc) := H14.out.2.2.2.2.2.2.cell 1
    have uY2 : w9.cell? ⟨w5.heap.size, 2, none⟩ = some (.slice gda nd gdc) := H14.out.2.2.2.2.2.2.cell 2
    have ultV : w3.heap.size < w9.heap.size := H14.out.2.2.2.1.lt
    have ultY : w5.heap.size < w9.heap.size := H14.out.2.2.2.2.2.2.lt
    go_wp2_with fail
    clear uV0 uV1 uV2 uY0 uY1 uY2 ultV ultY
    refine (eqCountState ok0 gsa gda psa pda ns nd gsc gdc psc pdc (fun _ => sec0) (fun _ => false) _ hns2 hnd2 (H14.out.2.2.2.2.2.1.s.vs.le (Nat.zero_le _)) (H14.out.2.2.2.2.2.1.d.vs.le (Nat.zero_le _)) (H14.out.2.2.1.s.vs.le (Nat.zero_le _)) (H14.out.2.2.1.d.vs.le (Nat.zero_le _))).mono ?_
    rintro e w10 ⟨rfl, hb10⟩
    have H15 : Hid (Box w10 w.heap.size 24 #[.int .i64 sec, .slice a n cap] ∧ Below w.heap.size w w10 ∧ StOwn w2.heap.size w10 psa psc pda pdc ns nd (fun _ => sec0) (fun _ => false) ∧ Box w10 w3.heap.size 42 #[.bool ok0, .slice psa ns psc, .slice pda nd pdc] ∧ Box w10 w4.heap.size 29 #[.int .i64 sec, .slice (some ⟨b2, 0, none⟩) n n] ∧ StOwn (w4.alloc (.cells #[.int .i64 sec, .slice (some ⟨b2, 0, none⟩) n n] 29)).heap.size w10 gsa gsc gda gdc ns nd (fun _ => sec0) (fun _ => false) ∧ Box w10 w5.heap.size 42 #[.bool ok0, .slice gsa ns gsc, .slice gda nd gdc]) := ⟨H14.out.1.mono hb10 (Nat.le_refl _), H14.out.2.1.trans (hb10.mono H14.out.2.1.size), H14.out.2.2.1.mono (Nat.le_refl _) hb10 (Nat.le_refl _), H14.out.2.2.2.1.mono hb10 (Nat.le_refl _), H14.out.2.2.2.2.1.mono hb10 (Nat.le_refl _), H14.out.2.2.2.2.2.1.mono (Nat.le_refl _) hb10 (Nat.le_refl _), H14.out.2.2.2.2.2.2.mono hb10 (Nat.le_refl _)⟩
    clear H14 hb10
    have uY0 : w10.cell? ⟨w5.heap.size, 0, none⟩ = some (.bool ok0) := H15.out.2.2.2.2.2.2.cell 0
    have uY1 : w10.cell? ⟨w5.heap.size, 1, none⟩ = some (.slice gsa ns gsc) := H15.out.2.2.2.2.2.2.cell 1
    have uY2 : w10.cell? ⟨w5.heap.size, 2, none⟩ = some (.slice gda nd gdc) := H15.out.2.2.2.2.2.2.cell 2
    have ultY : w5.heap.size < w10.heap.size := H15.out.2.2.2.2.2.2.lt
    go_wp2_with fail
    clear uY0 uY1 uY2 ultY
    refine (markCountState ok0 gsa gda ns nd gsc gdc 1 _ _ _ _ hns2 hnd2 (by omega) H15.out.2.2.2.2.2.1).mono ?_
    rintro e w11 ⟨he, f11, m11⟩
    generalize hk11 : 1 + ns * 5 + nd * 1 = k11 at he
    subst he
    have H16 : Hid (Box w11 w.heap.size 24 #[.int .i64 sec, .slice a n cap] ∧ Below w.heap.size w w11 ∧ StOwn w2.heap.size w11 psa psc pda pdc ns nd (fun _ => sec0) (fun _ => false) ∧ Box w11 w3.heap.size 42 #[.bool ok0, .slice psa ns psc, .slice pda nd pdc] ∧ Box w11 w4.heap.size 29 #[.int .i64 sec, .slice (some ⟨b2, 0, none⟩) n n] ∧ Box w11 w5.heap.size 42 #[.bool ok0, .slice gsa ns gsc, .slice gda nd gdc] ∧ StMk w11 gsa gda ns nd 1) := ⟨H15.out.1.fr f11 (fun hq => by have := hglo.out _ hq; omega), H15.out.2.1.trans (f11.below H15.out.2.1.size (fun k hk hq => by have := hglo.out _ hq; omega)), H15.out.2.2.1.fr f11 (fun g hg hq => by have := hglo.out _ hq; have := hst0.out g hg; omega), H15.out.2.2.2.1.fr f11 (fun hq => by have := hglo.out _ hq; omega), H15.out.2.2.2.2.1.fr f11 (fun hq => by have := hglo.out _ hq; omega), H15.out.2.2.2.2.2.2.fr f11 (fun hq => by have := hglo.out _ hq; omega), m11⟩
    clear H15 f11 m11
    have hk110 : (0 : Int) ≤ (k11 : Int) := by omega
    have uY0 : w11.cell? ⟨w5.heap.size, 0, none⟩ = some (.bool ok0) := H16.out.2.2.2.2.2.1.cell 0
    have uY1 : w11.cell? ⟨w5.heap.size, 1, none⟩ = some (.slice gsa ns gsc) := H16.out.2.2.2.2.2.1.cell 1
    have uY2 : w11.cell? ⟨w5.heap.size, 2, none⟩ = some (.slice gda nd gdc) := H16.out.2.2.2.2.2.1.cell 2
    have ultY : w5.heap.size < w11.heap.size := H16.out.2.2.2.2.2.1.lt
    go_wp2_with fail
    clear uY0 uY1 uY2 ultY
    refine (heldCountState ok0 gsa gda ns nd gsc gdc 1 _ hns2 hnd2 (by omega) H16.out.2.2.2.2.2.2).mono ?_
    rintro e w12 ⟨he, hb12⟩
    rw [hk11] at he
    subst he
    have H17 : Hid (Box w12 w.heap.size 24 #[.int .i64 sec, .slice a n cap] ∧ Below w.heap.size w w12 ∧ StOwn w2.heap.size w12 psa psc pda pdc ns nd (fun _ => sec0) (fun _ => false) ∧ Box w12 w3.heap.size 42 #[.bool ok0, .slice psa ns psc, .slice pda nd pdc] ∧ Box w12 w4.heap.size 29 #[.int .i64 sec, .slice (some ⟨b2, 0, none⟩) n n] ∧ Box w12 w5.heap.size 42 #[.bool ok0, .slice gsa ns gsc, .slice gda nd gdc] ∧ StMk w12 gsa gda ns nd 1) := ⟨H16.out.1.mono hb12 (Nat.le_refl _), H16.out.2.1.trans (hb12.mono H16.out.2.1.size), H16.out.2.2.1.mono (Nat.le_refl _) hb12 (Nat.le_refl _), H16.out.2.2.2.1.mono hb12 (Nat.le_refl _), H16.out.2.2.2.2.1.mono hb12 (Nat.le_refl _), H16.out.2.2.2.2.2.1.mono hb12 (Nat.le_refl _), H16.out.2.2.2.2.2.2.mono hb12 (Nat.le_refl _)⟩
    clear H16 hb12
    have uA0 : w12.cell? ⟨w.heap.size, 0, none⟩ = some (.int .i64 sec) := H17.out.1.cell 0
    have uA1 : w12.cell? ⟨w.heap.size, 1, none⟩ = some (.slice a n cap) := H17.out.1.cell 1
    have ultA : w.heap.size < w12.heap.size := H17.out.1.lt
    go_wp2_with fail
    clear uA0 uA1 ultA
    refine (toLayout sec a n cap K _ hn (HE.out.mono (Nat.le_refl _) H17.out.2.1 (Nat.le_refl _))).mono ?_
    rintro e w13 ⟨b4, hkb4, rfl, o13, hb13⟩
    have zb4 : b4 < w13.heap.size := (o13.lt rfl).2
    have H18 : Hid (Box w13 w.heap.size 24 #[.int .i64 sec, .slice a n cap] ∧ Below w.heap.size w w13 ∧ StOwn w2.heap.size w13 psa psc pda pdc ns nd (fun _ => sec0) (fun _ => false) ∧ Box w13 w3.heap.size 42 #[.bool ok0, .slice psa ns psc, .slice pda nd pdc] ∧ Box w13 w4.heap.size 29 #[.int .i64 sec, .slice (some ⟨b2, 0, none⟩) n n] ∧ Box w13 w5.heap.size 42 #[.bool ok0, .slice gsa ns gsc, .slice gda nd gdc] ∧ StMk w13 gsa gda ns nd 1 ∧ VOwn b4 68 2 w13 (.slice (some ⟨b4, 0, none⟩) n n) n (intF K)) := ⟨H17.out.1.mono hb13 (Nat.le_refl _), H17.out.2.1.trans (hb13.mono H17.out.2.1.size), H17.out.2.2.1.mono (Nat.le_refl _) hb13 (Nat.le_refl _), H17.out.2.2.2.1.mono hb13 (Nat.le_refl _), H17.out.2.2.2.2.1.mono hb13 (Nat.le_refl _), H17.out.2.2.2.2.2.1.mono hb13 (Nat.le_refl _), H17.out.2.2.2.2.2.2.mono hb13 (Nat.le_refl _), o13⟩
    clear H17 hb13 o13
    go_wp2_with fail
    refine (HI.out _ b4 H18.out.2.2.2.2.2.2.2).mono ?_
    rintro e w14 ⟨hsa, hsc, hda, hdc, rfl, o14, hb14⟩
    have H19 : Hid (Box w14 w.heap.size 24 #[.int .i64 sec, .slice a n cap] ∧ Below w.heap.size w w14 ∧ StOwn w2.heap.size w14 psa psc pda pdc ns nd (fun _ => sec0) (fun _ => false) ∧ Box w14 w3.heap.size 42 #[.bool ok0, .slice psa ns psc, .slice pda nd pdc] ∧ Box w14 w4.heap.size 29 #[.int .i64 sec, .slice (some ⟨b2, 0, none⟩) n n] ∧ Box w14 w5.heap.size 42 #[.bool ok0, .slice gsa ns gsc, .slice gda nd gdc] ∧ StMk w14 gsa gda ns nd 1 ∧ StOwn w13.heap.size w14 hsa hsc hda hdc ns nd (fun _ => sec0) (fun _ => false)) := ⟨H18.out.1.mono hb14 (Nat.le_refl _), H18.out.2.1.trans (hb14.mono H18.out.2.1.size), H18.out.2.2.1.mono (Nat.le_refl _) hb14 (Nat.le_refl _), H18.out.2.2.2.1.mono hb14 (Nat.le_refl _), H18.out.2.2.2.2.1.mono hb14 (Nat.le_refl _), H18.out.2.2.2.2.2.1.mono hb14 (Nat.le_refl _), H18.out.2.2.2.2.2.2.1.mono hb14 (Nat.le_refl _), o14⟩
    clear H18 hb14 o14
    have uV0 : w14.cell? ⟨w3.heap.size, 0, none⟩ = some (.bool ok0) := H19.out.2.2.2.1.cell 0
    have uV1 : w14.cell? ⟨w3.heap.size, 1, none⟩ = some (.slice psa ns psc) := H19.out.2.2.2.1.cell 1
    have uV2 : w14.cell? ⟨w3.heap.size, 2, none⟩ = some (.slice pda nd pdc) := H19.out.2.2.2.1.cell 2
    have ultV : w3.heap.size < w14.heap.size := H19.out.2.2.2.1.lt
    go_wp2_with fail
    clear uV0 uV1 uV2 ultV
    have bb := bel1 w14 (.cells #[.bool ok0, .slice hsa ns hsc, .slice hda nd hdc] 42)
    have H20 : Hid (Box (w14.alloc (.cells #[.bool ok0, .slice hsa ns hsc, .slice hda nd hdc] 42)) w.heap.size 24 #[.int .i64 sec, .slice a n cap] ∧ Below w.heap.size w (w14.alloc (.cells #[.bool ok0, .slice hsa ns hsc, .slice hda nd hdc] 42)) ∧ StOwn w2.heap.size (w14.alloc (.cells #[.bool ok0, .slice hsa ns hsc, .slice hda nd hdc] 42)) psa psc pda pdc ns nd (fun _ => sec0) (fun _ => false) ∧ Box (w14.alloc (.cells #[.bool ok0, .slice hsa ns hsc, .slice hda nd hdc] 42)) w3.heap.size 42 #[.bool ok0, .slice psa ns psc, .slice pda nd pdc] ∧ Box (w14.alloc (.cells #[.bool ok0, .slice hsa ns hsc, .slice hda nd hdc] 42)) w4.heap.size 29 #[.int .i64 sec, .slice (some ⟨b2, 0, none⟩) n n] ∧ Box (w14.alloc (.cells #[.bool ok0, .slice hsa ns hsc, .slice hda nd hdc] 42)) w5.heap.size 42 #[.bool ok0, .slice gsa ns gsc, .slice gda nd gdc] ∧ StMk (w14.alloc (.cells #[.bool ok0, .slice hsa ns hsc, .slice hda nd hdc] 42)) gsa gda ns nd 1 ∧ StOwn w13.heap.size (w14.alloc (.cells #[.bool ok0, .slice hsa ns hsc, .slice hda nd hdc] 42)) hsa hsc hda hdc ns nd (fun _ => sec0) (fun _ => false) ∧ Box (w14.alloc (.cells #[.bool ok0, .slice hsa ns hsc, .slice hda nd hdc] 42)) w14.heap.size 42 #[.bool ok0, .slice hsa ns hsc, .slice hda nd hdc]) := ⟨H19.out.1.mono bb (Nat.le_refl _), H19.out.2.1.trans (bb.mono H19.out.2.1.size), H19.out.2.2.1.mono (Nat.le_refl _) bb (Nat.le_refl _), H19.out.2.2.2.1.mono bb (Nat.le_refl _), H19.out.2.2.2.2.1.mono bb (Nat.le_refl _), H19.out.2.2.2.2.2.1.mono bb (Nat.le_refl _), H19.out.2.2.2.2.2.2.1.mono bb (Nat.le_refl _), H19.out.2.2.2.2.2.2.2.mono (Nat.le_refl _) bb (Nat.le_refl _), Box.new w14 42 #[.bool ok0, .slice hsa ns hsc, .slice hda nd hdc]⟩
    clear H19 bb
    refine (eqCountState ok0 hsa hda psa pda ns nd hsc hdc psc pdc (fun _ => sec0) (fun _ => false) _ hns2 hnd2 (H20.out.2.2.2.2.2.2.2.1.s.vs.le (Nat.zero_le _)) (H20.out.2.2.2.2.2.2.2.1.d.vs.le (Nat.zero_le _)) (H20.out.2.2.1.s.vs.le (Nat.zero_le _)) (H20.out.2.2.1.d.vs.le (Nat.zero_le _))).mono ?_
    rintro e w15 ⟨rfl, hb15⟩
    have H21 : Hid (Box w15 w.heap.size 24 #[.int .i64 sec, .slice a n cap] ∧ Below w.heap.size w w15 ∧ StOwn w2.heap.size w15 psa psc pda pdc ns nd (fun _ => sec0) (fun _ => false) ∧ Box w15 w3.heap.size 42 #[.bool ok0, .slice psa ns psc, .slice pda nd pdc] ∧ Box w15 w4.heap.size 29 #[.int .i64 sec, .slice (some ⟨b2, 0, none⟩) n n] ∧ Box w15 w5.heap.size 42 #[.bool ok0, .slice gsa ns gsc, .slice gda nd gdc] ∧ StMk w15 gsa gda ns nd 1 ∧ StOwn w13.heap.size w15 hsa hsc hda hdc ns nd (fun _ => sec0) (fun _ => false) ∧ Box w15 w14.heap.size 42 #[.bool ok0, .slice hsa ns hsc, .slice hda nd hdc]) := ⟨H20.out.1.mono hb15 (Nat.le_refl _), H20.out.2.1.trans (hb15.mono H20.out.2.1.size), H20.out.2.2.1.mono (Nat.le_refl _) hb15 (Nat.le_refl _), H20.out.2.2.2.1.mono hb15 (Nat.le_refl _), H20.out.2.2.2.2.1.mono hb15 (Nat.le_refl _), H20.out.2.2.2.2.2.1.mono hb15 (Nat.le_refl _), H20.out.2.2.2.2.2.2.1.mono hb15 (Nat.le_refl _), H20.out.2.2.2.2.2.2.2.1.mono (Nat.le_refl _) hb15 (Nat.le_refl _), H20.out.2.2.2.2.2.2.2.2.mono hb15 (Nat.le_refl _)⟩
    clear H20 hb15
    have uY0 : w15.cell? ⟨w5.heap.size, 0, none⟩ = some (.bool ok0) := H21.out.2.2.2.2.2.1.cell 0
    have uY1 : w15.cell? ⟨w5.heap.size, 1, none⟩ = some (.slice gsa ns gsc) := H21.out.2.2.2.2.2.1.cell 1
    have uY2 : w15.cell? ⟨w5.heap.size, 2, none⟩ = some (.slice gda nd gdc) := H21.out.2.2.2.2.2.1.cell 2
    have ultY : w5.heap.size < w15.heap.size := H21.out.2.2.2.2.2.1.lt
    go_wp2_with fail
    clear uY0 uY1 uY2 ultY
    refine (heldCountState ok0 gsa gda ns nd gsc gdc 1 _ hns2 hnd2 (by omega) H21.out.2.2.2.2.2.2.1).mono ?_
    rintro e w16 ⟨he, hb16⟩
    rw [hk11] at he
    subst he
    have H22 : Hid (Box w16 w.heap.size 24 #[.int .i64 sec, .slice a n cap] ∧ Below w.heap.size w w16 ∧ StOwn w2.heap.size w16 psa psc pda pdc ns nd (fun _ => sec0) (fun _ => false) ∧ Box w16 w3.heap.size 42 #[.bool ok0, .slice psa ns psc, .slice pda nd pdc] ∧ Box w16 w4.heap.size 29 #[.int .i64 sec, .slice (some ⟨b2, 0, none⟩) n n] ∧ Box w16 w5.heap.size 42 #[.bool ok0, .slice gsa ns gsc, .slice gda nd gdc] ∧ StMk w16 gsa gda ns nd 1 ∧ StOwn w13.heap.size w16 hsa hsc hda hdc ns nd (fun _ => sec0) (fun _ => false) ∧ Box w16 w14.heap.size 42 #[.bool ok0, .slice hsa ns hsc, .slice hda nd hdc]) := ⟨H21.out.1.mono hb16 (Nat.le_refl _), H21.out.2.1.trans (hb16.mono H21.out.2.1.size), H21.out.2.2.1.mono (Nat.le_refl _) hb16 (Nat.le_refl _), H21.out.2.2.2.1.mono hb16 (Nat.le_refl _), H21.out.2.2.2.2.1.mono hb16 (Nat.le_refl _), H21.out.2.2.2.2.2.1.mono hb16 (Nat.le_refl _), H21.out.2.2.2.2.2.2.1.mono hb16 (Nat.le_refl _), H21.out.2.2.2.2.2.2.2.1.mono (Nat.le_refl _) hb16 (Nat.le_refl _), H21.out.2.2.2.2.2.2.2.2.mono hb16 (Nat.le_refl _)⟩
    clear H21 hb16
    go_wp2_with fail
    go_ret
    exact ⟨rfl, H22.out.2.1⟩

end Go.Proofs.Ytmcaohablpaknaa
