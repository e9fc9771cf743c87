import Derived.Test.YtmcaohablpaknaaCw
import Derived.Test.YtmcaohablpaknaaLh
import Derived.Deep.RegionHeld3
namespace Go.Proofs.Ytmcaohablpaknaa
open Go.RowKit

set_option maxRecDepth 100000 in
set_option maxHeartbeats 8000000 in
theorem law8 (sec : Int) (a : Option Addr) (n cap : Nat) (K : Nat → Nat → Int) (ok : Bool) (sa da : Option Addr) (ns nd sc dc : Nat) (S : Nat → Sec) (D : Nat → Bool) (w : World) (hs : n ≤ maxLen) (hE : VsAt 2 0 w a n (intF K)) (hsn : ns ≤ maxLen) (hdn : nd ≤ maxLen) (hS : VsAt 5 0 w sa ns (secF S)) (hD : VsAt 1 0 w da nd (boolF D)) :
    Calls Try.prog 8 #[.agg #[.int .i64 sec, .slice a n cap], .agg #[.bool ok, .slice sa ns sc, .slice da nd dc]] w fun e w' => e = .returned (.bool true) ∧ Below w.heap.size w w' := by
  have HE : Hid (VsAt 2 0 w a n (intF K) ∧ VsAt 5 0 w sa ns (secF S) ∧ VsAt 1 0 w da nd (boolF D)) := ⟨hE, hS, hD⟩
  clear hE hS hD
  go_enter Try.func8, Try.ntmps8
  go_wp2_with fail
  have H1 : Hid (Box ((w.alloc (.cells #[.int .i64 sec, .slice a n cap] 24)).alloc (.cells #[.bool ok, .slice sa ns sc, .slice da nd dc] 54)) w.heap.size 24 #[.int .i64 sec, .slice a n cap] ∧ Box ((w.alloc (.cells #[.int .i64 sec, .slice a n cap] 24)).alloc (.cells #[.bool ok, .slice sa ns sc, .slice da nd dc] 54)) (w.heap.size + 1) 54 #[.bool ok, .slice sa ns sc, .slice da nd dc] ∧ Below w.heap.size w ((w.alloc (.cells #[.int .i64 sec, .slice a n cap] 24)).alloc (.cells #[.bool ok, .slice sa ns sc, .slice da nd dc] 54))) := ⟨((Box.new' w 24 #[.int .i64 sec, .slice a n cap] (by simp)).alloc (.cells #[.bool ok, .slice sa ns sc, .slice da nd dc] 54)), (Box.new' (w.alloc (.cells #[.int .i64 sec, .slice a n cap] 24)) 54 #[.bool ok, .slice sa ns sc, .slice da nd dc] (by simp)), bel2 w (.cells #[.int .i64 sec, .slice a n cap] 24) (.cells #[.bool ok, .slice sa ns sc, .slice da nd dc] 54)⟩
  refine (szLayout sec a n cap 1048576 _ hs (by omega) (by omega)).mono ?_
  rintro e w1 ⟨rfl, hb1⟩
  have hp := @szL_pos 1048576 n
  generalize szL 1048576 n = r at hp
  have H2 : Hid (Box w1 w.heap.size 24 #[.int .i64 sec, .slice a n cap] ∧ Box w1 (w.heap.size + 1) 54 #[.bool ok, .slice sa ns sc, .slice da nd dc] ∧ Below w.heap.size w w1) := ⟨H1.out.1.mono hb1 (Nat.le_refl _), H1.out.2.1.mono hb1 (Nat.le_refl _), H1.out.2.2.trans (hb1.mono H1.out.2.2.size)⟩
  clear H1 hb1
  by_cases hneg : r < 0
  · clear hp
    go_wp2_with fail
    go_ret
    exact ⟨rfl, H2.out.2.2⟩
  · have hn : n ≤ 1048576 := by have := (hp hneg).1; omega
    have r0 : 0 ≤ r := by omega
    have r1 : r ≤ 1048576 := by have := (hp hneg).2; omega
    clear hp
    have uS0 : w1.cell? ⟨(w.heap.size + 1), 0, none⟩ = some (.bool ok) := H2.out.2.1.cell 0
    have uS1 : w1.cell? ⟨(w.heap.size + 1), 1, none⟩ = some (.slice sa ns sc) := H2.out.2.1.cell 1
    have uS2 : w1.cell? ⟨(w.heap.size + 1), 2, none⟩ = some (.slice da nd dc) := H2.out.2.1.cell 2
    have ultS : (w.heap.size + 1) < w1.heap.size := H2.out.2.1.lt
    go_wp2_with fail
    clear uS0 uS1 uS2 ultS
    refine (szCountState ok sa da ns nd sc dc r _ hsn hdn r0 r1).mono ?_
    rintro e w2 ⟨r2, rfl, hp2, hb2⟩
    have H3 : Hid (Box w2 w.heap.size 24 #[.int .i64 sec, .slice a n cap] ∧ Box w2 (w.heap.size + 1) 54 #[.bool ok, .slice sa ns sc, .slice da nd dc] ∧ Below w.heap.size w w2) := ⟨H2.out.1.mono hb2 (Nat.le_refl _), H2.out.2.1.mono hb2 (Nat.le_refl _), H2.out.2.2.trans (hb2.mono H2.out.2.2.size)⟩
    clear H2 hb2
    by_cases hneg2 : r2 < 0
    · clear hp2
      go_wp2_with fail
      go_ret
      exact ⟨rfl, H3.out.2.2⟩
    · have hns2 : ns ≤ 1048576 := by have := hp2 hneg2; omega
      have hnd2 : nd ≤ 1048576 := by have := hp2 hneg2; omega
      clear hp2
      obtain ⟨ans, HI, HS⟩ : ∃ ans : Bool, Hid (∀ W b1 b2 b3, VOwn b1 68 2 W (.slice (some ⟨b1, 0, none⟩) n n) n (intF K) → VOwn b2 84 5 W (.slice (some ⟨b2, 0, none⟩) ns ns) ns (secF S) → VOwn b3 4 1 W (.slice (some ⟨b3, 0, none⟩) nd nd) nd (boolF D) → Calls Try.prog 36 #[.agg #[.int .i64 sec, .slice (some ⟨b1, 0, none⟩) n n], .agg #[.bool ok, .slice (some ⟨b2, 0, none⟩) ns ns, .slice (some ⟨b3, 0, none⟩) nd nd]] W fun e w' => e = .returned (.bool ans) ∧ Below W.heap.size W w') ∧ Hid (∀ W b1 b2 b3, VOwn b1 68 2 W (.slice (some ⟨b1, 0, none⟩) n n) n (intF K) → VOwn b2 84 5 W (.slice (some ⟨b2, 0, none⟩) ns ns) ns (secF S) → VOwn b3 4 1 W (.slice (some ⟨b3, 0, none⟩) nd nd) nd (boolF D) → Calls Try.prog 35 #[.agg #[.int .i64 sec, .slice (some ⟨b1, 0, none⟩) n n], .agg #[.bool ok, .slice (some ⟨b2, 0, none⟩) ns ns, .slice (some ⟨b3, 0, none⟩) nd nd]] W fun e w' => e = .returned (.bool ans) ∧ Below W.heap.size W w') := ⟨coB sec n K ok ns nd S D, fun W b1 b2 b3 h1 h2 h3 => coI sec _ n n K ok b2 b3 ns nd ns nd S D W hn hns2 hnd2 (h1.vs.le (Nat.zero_le _)) (h2.vs.le (Nat.zero_le _)) (h3.vs.le (Nat.zero_le _)), fun W b1 b2 b3 h1 h2 h3 => coS sec _ n n K ok _ _ ns nd ns nd S D W hn hns2 hnd2 (h1.vs.le (Nat.zero_le _)) (h2.vs.le (Nat.zero_le _)) (h3.vs.le (Nat.zero_le _))⟩
      have uA0 : w2.cell? ⟨w.heap.size, 0, none⟩ = some (.int .i64 sec) := H3.out.1.cell 0
      have uA1 : w2.cell? ⟨w.heap.size, 1, none⟩ = some (.slice a n cap) := H3.out.1.cell 1
      have uS0 : w2.cell? ⟨(w.heap.size + 1), 0, none⟩ = some (.bool ok) := H3.out.2.1.cell 0
      have uS1 : w2.cell? ⟨(w.heap.size + 1), 1, none⟩ = some (.slice sa ns sc) := H3.out.2.1.cell 1
      have uS2 : w2.cell? ⟨(w.heap.size + 1), 2, none⟩ = some (.slice da nd dc) := H3.out.2.1.cell 2
      have ultA : w.heap.size < w2.heap.size := H3.out.1.lt
      have ultS : (w.heap.size + 1) < w2.heap.size := H3.out.2.1.lt
      go_wp2_with fail
      clear uA0 uA1 uS0 uS1 uS2 ultA ultS
      have H4 : Hid (Box w2.drew w.heap.size 24 #[.int .i64 sec, .slice a n cap] ∧ Box w2.drew (w.heap.size + 1) 54 #[.bool ok, .slice sa ns sc, .slice da nd dc] ∧ Below w.heap.size w w2.drew) := ⟨H3.out.1.drew, H3.out.2.1.drew, H3.out.2.2.drew⟩
      clear H3
      have dA0 : w2.drew.cell? ⟨w.heap.size, 0, none⟩ = some (.int .i64 sec) := H4.out.1.cell 0
      have dA1 : w2.drew.cell? ⟨w.heap.size, 1, none⟩ = some (.slice a n cap) := H4.out.1.cell 1
      have dS0 : w2.drew.cell? ⟨(w.heap.size + 1), 0, none⟩ = some (.bool ok) := H4.out.2.1.cell 0
      have dS1 : w2.drew.cell? ⟨(w.heap.size + 1), 1, none⟩ = some (.slice sa ns sc) := H4.out.2.1.cell 1
      have dS2 : w2.drew.cell? ⟨(w.heap.size + 1), 2, none⟩ = some (.slice da nd dc) := H4.out.2.1.cell 2
      go_region_held3 (fun w' => w'.cell? ⟨w.heap.size, 0, none⟩ = some (.int .i64 sec) ∧ w'.cell? ⟨w.heap.size, 1, none⟩ = some (.slice a n cap) ∧ w'.cell? ⟨(w.heap.size + 1), 0, none⟩ = some (.bool ok) ∧ w'.cell? ⟨(w.heap.size + 1), 1, none⟩ = some (.slice sa ns sc) ∧ w'.cell? ⟨(w.heap.size + 1), 2, none⟩ = some (.slice da nd dc)) (go_keep) (first
        | (go_at_call 11; refine (toLayout sec a n cap K _ hn (HE.out.1.mono (Nat.le_refl _) H4.out.2.2 (Nat.le_refl _))).mono ?_; rintro e w3 ⟨b1, hkb1, rfl, o3, hb3⟩; have H5 : Hid (Box w3 w.heap.size 24 #[.int .i64 sec, .slice a n cap] ∧ Box w3 (w.heap.size + 1) 54 #[.bool ok, .slice sa ns sc, .slice da nd dc] ∧ Below w.heap.size w w3 ∧ VOwn b1 68 2 w3 (.slice (some ⟨b1, 0, none⟩) n n) n (intF K)) := ⟨H4.out.1.mono hb3 (Nat.le_refl _), H4.out.2.1.mono hb3 (Nat.le_refl _), H4.out.2.2.trans (hb3.mono H4.out.2.2.size), o3⟩; have mA0 : w3.cell? ⟨w.heap.size, 0, none⟩ = some (.int .i64 sec) := H5.out.1.cell 0; have mA1 : w3.cell? ⟨w.heap.size, 1, none⟩ = some (.slice a n cap) := H5.out.1.cell 1; have mS0 : w3.cell? ⟨(w.heap.size + 1), 0, none⟩ = some (.bool ok) := H5.out.2.1.cell 0; have mS1 : w3.cell? ⟨(w.heap.size + 1), 1, none⟩ = some (.slice sa ns sc) := H5.out.2.1.cell 1; have mS2 : w3.cell? ⟨(w.heap.size + 1), 2, none⟩ = some (.slice da nd dc) := H5.out.2.1.cell 2)
        | (go_at_call 30; refine (toCountState ok sa da ns nd sc dc S D _ hns2 hnd2 (HE.out.2.1.mono (Nat.le_refl _) H5.out.2.2.1 (Nat.le_refl _)) (HE.out.2.2.mono (Nat.le_refl _) H5.out.2.2.1 (Nat.le_refl _))).mono ?_; rintro e w4 ⟨b2, b3, hkb2, hkb3, rfl, o4, o4x, hb4⟩; have H6 : Hid (Box w4 w.heap.size 24 #[.int .i64 sec, .slice a n cap] ∧ Box w4 (w.heap.size + 1) 54 #[.bool ok, .slice sa ns sc, .slice da nd dc] ∧ Below w.heap.size w w4 ∧ VOwn b1 68 2 w4 (.slice (some ⟨b1, 0, none⟩) n n) n (intF K) ∧ VOwn b2 84 5 w4 (.slice (some ⟨b2, 0, none⟩) ns ns) ns (secF S) ∧ VOwn b3 4 1 w4 (.slice (some ⟨b3, 0, none⟩) nd nd) nd (boolF D)) := ⟨H5.out.1.mono hb4 (Nat.le_refl _), H5.out.2.1.mono hb4 (Nat.le_refl _), H5.out.2.2.1.trans (hb4.mono H5.out.2.2.1.size), H5.out.2.2.2.mono (Nat.le_refl _) hb4 (Nat.le_refl _), o4, o4x⟩; have mA0 : w4.cell? ⟨w.heap.size, 0, none⟩ = some (.int .i64 sec) := H6.out.1.cell 0; have mA1 : w4.cell? ⟨w.heap.size, 1, none⟩ = some (.slice a n cap) := H6.out.1.cell 1; have mS0 : w4.cell? ⟨(w.heap.size + 1), 0, none⟩ = some (.bool ok) := H6.out.2.1.cell 0; have mS1 : w4.cell? ⟨(w.heap.size + 1), 1, none⟩ = some (.slice sa ns sc) := H6.out.2.1.cell 1; have mS2 : w4.cell? ⟨(w.heap.size + 1), 2, none⟩ = some (.slice da nd dc) := H6.out.2.1.cell 2)
        | (go_at_call 35; refine (HS.out _ b1 b2 b3 H6.out.2.2.2.1 H6.out.2.2.2.2.1 H6.out.2.2.2.2.2).mono ?_; rintro e w5 ⟨rfl, hb5⟩; have H7 : Hid (Box w5 w.heap.size 24 #[.int .i64 sec, .slice a n cap] ∧ Box w5 (w.heap.size + 1) 54 #[.bool ok, .slice sa ns sc, .slice da nd dc] ∧ Below w.heap.size w w5) := ⟨H6.out.1.mono hb5 (Nat.le_refl _), H6.out.2.1.mono hb5 (Nat.le_refl _), H6.out.2.2.1.trans (hb5.mono H6.out.2.2.1.size)⟩; have mA0 : w5.cell? ⟨w.heap.size, 0, none⟩ = some (.int .i64 sec) := H7.out.1.cell 0; have mA1 : w5.cell? ⟨w.heap.size, 1, none⟩ = some (.slice a n cap) := H7.out.1.cell 1; have mS0 : w5.cell? ⟨(w.heap.size + 1), 0, none⟩ = some (.bool ok) := H7.out.2.1.cell 0; have mS1 : w5.cell? ⟨(w.heap.size + 1), 1, none⟩ = some (.slice sa ns sc) := H7.out.2.1.cell 1; have mS2 : w5.cell? ⟨(w.heap.size + 1), 2, none⟩ = some (.slice da nd dc) := H7.out.2.1.cell 2))
      clear dA0 dA1 dS0 dS1 dS2 mA0 mA1 mS0 mS1 mS2
      clear hb3 hb4 hb5 o3 o4 o4x
      have uA0 : w5.cell? ⟨w.heap.size, 0, none⟩ = some (.int .i64 sec) := H7.out.1.cell 0
      have uA1 : w5.cell? ⟨w.heap.size, 1, none⟩ = some (.slice a n cap) := H7.out.1.cell 1
      have ultA : w.heap.size < w5.heap.size := H7.out.1.lt
      go_wp2_with fail
      clear uA0 uA1 ultA
      refine (toLayout sec a n cap K _ hn (HE.out.1.mono (Nat.le_refl _) H7.out.2.2 (Nat.le_refl _))).mono ?_
      rintro e w6 ⟨c1, hkc1, rfl, o6, hb6⟩
      have H8 : Hid (Box w6 w.heap.size 24 #[.int .i64 sec, .slice a n cap] ∧ Box w6 (w.heap.size + 1) 54 #[.bool ok, .slice sa ns sc, .slice da nd dc] ∧ Below w.heap.size w w6 ∧ VOwn c1 68 2 w6 (.slice (some ⟨c1, 0, none⟩) n n) n (intF K)) := ⟨H7.out.1.mono hb6 (Nat.le_refl _), H7.out.2.1.mono hb6 (Nat.le_refl _), H7.out.2.2.trans (hb6.mono H7.out.2.2.size), o6⟩
      clear H7 hb6 o6
      have uS0 : w6.cell? ⟨(w.heap.size + 1), 0, none⟩ = some (.bool ok) := H8.out.2.1.cell 0
      have uS1 : w6.cell? ⟨(w.heap.size + 1), 1, none⟩ = some (.slice sa ns sc) := H8.out.2.1.cell 1
      have uS2 : w6.cell? ⟨(w.heap.size + 1), 2, none⟩ = some (.slice da nd dc) := H8.out.2.1.cell 2
      have ultS : (w.heap.size + 1) < w6.heap.size := H8.out.2.1.lt
      go_wp2_with fail
      clear uS0 uS1 uS2 ultS
      have bb := bel1 w6 (.cells #[.int .i64 sec, .slice (some ⟨c1, 0, none⟩) n n] 29)
      have H9 : Hid (Box (w6.alloc (.cells #[.int .i64 sec, .slice (some ⟨c1, 0, none⟩) n n] 29)) w.heap.size 24 #[.int .i64 sec, .slice a n cap] ∧ Box (w6.alloc (.cells #[.int .i64 sec, .slice (some ⟨c1, 0, none⟩) n n] 29)) (w.heap.size + 1) 54 #[.bool ok, .slice sa ns sc, .slice da nd dc] ∧ Below w.heap.size w (w6.alloc (.cells #[.int .i64 sec, .slice (some ⟨c1, 0, none⟩) n n] 29)) ∧ VOwn c1 68 2 (w6.alloc (.cells #[.int .i64 sec, .slice (some ⟨c1, 0, none⟩) n n] 29)) (.slice (some ⟨c1, 0, none⟩) n n) n (intF K) ∧ Box (w6.alloc (.cells #[.int .i64 sec, .slice (some ⟨c1, 0, none⟩) n n] 29)) w6.heap.size 29 #[.int .i64 sec, .slice (some ⟨c1, 0, none⟩) n n]) := ⟨H8.out.1.mono bb (Nat.le_refl _), H8.out.2.1.mono bb (Nat.le_refl _), H8.out.2.2.1.trans (bb.mono H8.out.2.2.1.size), H8.out.2.2.2.mono (Nat.le_refl _) bb (Nat.le_refl _), Box.new w6 29 #[.int .i64 sec, .slice (some ⟨c1, 0, none⟩) n n]⟩
      clear H8 bb
      refine (toCountState ok sa da ns nd sc dc S D _ hns2 hnd2 (HE.out.2.1.mono (Nat.le_refl _) H9.out.2.2.1 (Nat.le_refl _)) (HE.out.2.2.mono (Nat.le_refl _) H9.out.2.2.1 (Nat.le_refl _))).mono ?_
      rintro e w7 ⟨c2, c3, hkc2, hkc3, rfl, o7, o7x, hb7⟩
      have H10 : Hid (Box w7 w.heap.size 24 #[.int .i64 sec, .slice a n cap] ∧ Box w7 (w.heap.size + 1) 54 #[.bool ok, .slice sa ns sc, .slice da nd dc] ∧ Below w.heap.size w w7 ∧ VOwn c1 68 2 w7 (.slice (some ⟨c1, 0, none⟩) n n) n (intF K) ∧ Box w7 w6.heap.size 29 #[.int .i64 sec, .slice (some ⟨c1, 0, none⟩) n n] ∧ VOwn c2 84 5 w7 (.slice (some ⟨c2, 0, none⟩) ns ns) ns (secF S) ∧ VOwn c3 4 1 w7 (.slice (some ⟨c3, 0, none⟩) nd nd) nd (boolF D)) := ⟨H9.out.1.mono hb7 (Nat.le_refl _), H9.out.2.1.mono hb7 (Nat.le_refl _), H9.out.2.2.1.trans (hb7.mono H9.out.2.2.1.size), H9.out.2.2.2.1.mono (Nat.le_refl _) hb7 (Nat.le_refl _), H9.out.2.2.2.2.mono hb7 (Nat.le_refl _), o7, o7x⟩
      clear H9 hb7 o7 o7x
      have uX0 : w7.cell? ⟨w6.heap.size, 0, none⟩ = some (.int .i64 sec) := H10.out.2.2.2.2.1.cell 0
      have uX1 : w7.cell? ⟨w6.heap.size, 1, none⟩ = some (.slice (some ⟨c1, 0, none⟩) n n) := H10.out.2.2.2.2.1.cell 1
      have ultX : w6.heap.size < w7.heap.size := H10.out.2.2.2.2.1.lt
      go_wp2_with fail
      clear uX0 uX1 ultX
      have bb := bel1 w7 (.cells #[.bool ok, .slice (some ⟨c2, 0, none⟩) ns ns, .slice (some ⟨c3, 0, none⟩) nd nd] 42)
      have H11 : Hid (Box (w7.alloc (.cells #[.bool ok, .slice (some ⟨c2, 0, none⟩) ns ns, .slice (some ⟨c3, 0, none⟩) nd nd] 42)) w.heap.size 24 #[.int .i64 sec, .slice a n cap] ∧ Box (w7.alloc (.cells #[.bool ok, .slice (some ⟨c2, 0, none⟩) ns ns, .slice (some ⟨c3, 0, none⟩) nd nd] 42)) (w.heap.size + 1) 54 #[.bool ok, .slice sa ns sc, .slice da nd dc] ∧ Below w.heap.size w (w7.alloc (.cells #[.bool ok, .slice (some ⟨c2, 0, none⟩) ns ns, .slice (some ⟨c3, 0, none⟩) nd nd] 42)) ∧ VOwn c1 68 2 (w7.alloc (.cells #[.bool ok, .slice (some ⟨c2, 0, none⟩) ns ns, .slice (some ⟨c3, 0, none⟩) nd nd] 42)) (.slice (some ⟨c1, 0, none⟩) n n) n (intF K) ∧ Box (w7.alloc (.cells #[.bool ok, .slice (some ⟨c2, 0, none⟩) ns ns, .slice (some ⟨c3, 0, none⟩) nd nd] 42)) w6.heap.size 29 #[.int .i64 sec, .slice (some ⟨c1, 0, none⟩) n n] ∧ VOwn c2 84 5 (w7.alloc (.cells #[.bool ok, .slice (some ⟨c2, 0, none⟩) ns ns, .slice (some ⟨c3, 0, none⟩) nd nd] 42)) (.slice (some ⟨c2, 0, none⟩) ns ns) ns (secF S) ∧ VOwn c3 4 1 (w7.alloc (.cells #[.bool ok, .slice (some ⟨c2, 0, none⟩) ns ns, .slice (some ⟨c3, 0, none⟩) nd nd] 42)) (.slice (some ⟨c3, 0, none⟩) nd nd) nd (boolF D) ∧ Box (w7.alloc (.cells #[.bool ok, .slice (some ⟨c2, 0, none⟩) ns ns, .slice (some ⟨c3, 0, none⟩) nd nd] 42)) w7.heap.size 42 #[.bool ok, .slice (some ⟨c2, 0, none⟩) ns ns, .slice (some ⟨c3, 0, none⟩) nd nd]) := ⟨H10.out.1.mono bb (Nat.le_refl _), H10.out.2.1.mono bb (Nat.le_refl _), H10.out.2.2.1.trans (bb.mono H10.out.2.2.1.size), H10.out.2.2.2.1.mono (Nat.le_refl _) bb (Nat.le_refl _), H10.out.2.2.2.2.1.mono bb (Nat.le_refl _), H10.out.2.2.2.2.2.1.mono (Nat.le_refl _) bb (Nat.le_refl _), H10.out.2.2.2.2.2.2.mono (Nat.le_refl _) bb (Nat.le_refl _), Box.new w7 42 #[.bool ok, .slice (some ⟨c2, 0, none⟩) ns ns, .slice (some ⟨c3, 0, none⟩) nd nd]⟩
      clear H10 bb
      refine (HI.out _ c1 c2 c3 H11.out.2.2.2.1 H11.out.2.2.2.2.2.1 H11.out.2.2.2.2.2.2.1).mono ?_
      rintro e w8 ⟨rfl, hb8⟩
      have H12 : Hid (Box w8 w.heap.size 24 #[.int .i64 sec, .slice a n cap] ∧ Box w8 (w.heap.size + 1) 54 #[.bool ok, .slice sa ns sc, .slice da nd dc] ∧ Below w.heap.size w w8 ∧ VOwn c1 68 2 w8 (.slice (some ⟨c1, 0, none⟩) n n) n (intF K) ∧ Box w8 w6.heap.size 29 #[.int .i64 sec, .slice (some ⟨c1, 0, none⟩) n n] ∧ VOwn c2 84 5 w8 (.slice (some ⟨c2, 0, none⟩) ns ns) ns (secF S) ∧ VOwn c3 4 1 w8 (.slice (some ⟨c3, 0, none⟩) nd nd) nd (boolF D) ∧ Box w8 w7.heap.size 42 #[.bool ok, .slice (some ⟨c2, 0, none⟩) ns ns, .slice (some ⟨c3, 0, none⟩) nd nd]) := ⟨H11.out.1.mono hb8 (Nat.le_refl _), H11.out.2.1.mono hb8 (Nat.le_refl _), H11.out.2.2.1.trans (hb8.mono H11.out.2.2.1.size), H11.out.2.2.2.1.mono (Nat.le_refl _) hb8 (Nat.le_refl _), H11.out.2.2.2.2.1.mono hb8 (Nat.le_refl _), H11.out.2.2.2.2.2.1.mono (Nat.le_refl _) hb8 (Nat.le_refl _), H11.out.2.2.2.2.2.2.1.mono (Nat.le_refl _) hb8 (Nat.le_refl _), H11.out.2.2.2.2.2.2.2.mono hb8 (Nat.le_refl _)⟩
      clear H11 hb8
      have uA0 : w8.cell? ⟨w.heap.size, 0, none⟩ = some (.int .i64 sec) := H12.out.1.cell 0
      have uA1 : w8.cell? ⟨w.heap.size, 1, none⟩ = some (.slice a n cap) := H12.out.1.cell 1
      have uX0 : w8.cell? ⟨w6.heap.size, 0, none⟩ = some (.int .i64 sec) := H12.out.2.2.2.2.1.cell 0
      have uX1 : w8.cell? ⟨w6.heap.size, 1, none⟩ = some (.slice (some ⟨c1, 0, none⟩) n n) := H12.out.2.2.2.2.1.cell 1
      have ultA : w.heap.size < w8.heap.size := H12.out.1.lt
      have ultX : w6.heap.size < w8.heap.size := H12.out.2.2.2.2.1.lt
      go_wp2_with fail
      clear uA0 uA1 uX0 uX1 ultA ultX
      have H13 : Hid (Box w8.drew w.heap.size 24 #[.int .i64 sec, .slice a n cap] ∧ Box w8.drew (w.heap.size + 1) 54 #[.bool ok, .slice sa ns sc, .slice da nd dc] ∧ Below w.heap.size w w8.drew ∧ VOwn c1 68 2 w8.drew (.slice (some ⟨c1, 0, none⟩) n n) n (intF K) ∧ Box w8.drew w6.heap.size 29 #[.int .i64 sec, .slice (some ⟨c1, 0, none⟩) n n] ∧ VOwn c2 84 5 w8.drew (.slice (some ⟨c2, 0, none⟩) ns ns) ns (secF S) ∧ VOwn c3 4 1 w8.drew (.slice (some ⟨c3, 0, none⟩) nd nd) nd (boolF D) ∧ Box w8.drew w7.heap.size 42 #[.bool ok, .slice (some ⟨c2, 0, none⟩) ns ns, .slice (some ⟨c3, 0, none⟩) nd nd]) := ⟨H12.out.1.drew, H12.out.2.1.drew, H12.out.2.2.1.drew, H12.out.2.2.2.1.drew, H12.out.2.2.2.2.1.drew, H12.out.2.2.2.2.2.1.drew, H12.out.2.2.2.2.2.2.1.drew, H12.out.2.2.2.2.2.2.2.drew⟩
      clear H12
      have dA0 : w8.drew.cell? ⟨w.heap.size, 0, none⟩ = some (.int .i64 sec) := H13.out.1.cell 0
      have dA1 : w8.drew.cell? ⟨w.heap.size, 1, none⟩ = some (.slice a n cap) := H13.out.1.cell 1
      have dX0 : w8.drew.cell? ⟨w6.heap.size, 0, none⟩ = some (.int .i64 sec) := H13.out.2.2.2.2.1.cell 0
      have dX1 : w8.drew.cell? ⟨w6.heap.size, 1, none⟩ = some (.slice (some ⟨c1, 0, none⟩) n n) := H13.out.2.2.2.2.1.cell 1
      go_region_held3 (fun w' => w'.cell? ⟨w.heap.size, 0, none⟩ = some (.int .i64 sec) ∧ w'.cell? ⟨w.heap.size, 1, none⟩ = some (.slice a n cap) ∧ w'.cell? ⟨w6.heap.size, 0, none⟩ = some (.int .i64 sec) ∧ w'.cell? ⟨w6.heap.size, 1, none⟩ = some (.slice (some ⟨c1, 0, none⟩) n n)) (go_keep) (first
        | (go_at_call 11; refine (toLayout sec a n cap K _ hn (HE.out.1.mono (Nat.le_refl _) H13.out.2.2.1 (Nat.le_refl _))).mono ?_; rintro e w9 ⟨b4, hkb4, rfl, o9, hb9⟩; have H14 : Hid (Box w9 w.heap.size 24 #[.int .i64 sec, .slice a n cap] ∧ Box w9 (w.heap.size + 1) 54 #[.bool ok, .slice sa ns sc, .slice da nd dc] ∧ Below w.heap.size w w9 ∧ VOwn c1 68 2 w9 (.slice (some ⟨c1, 0, none⟩) n n) n (intF K) ∧ Box w9 w6.heap.size 29 #[.int .i64 sec, .slice (some ⟨c1, 0, none⟩) n n] ∧ VOwn c2 84 5 w9 (.slice (some ⟨c2, 0, none⟩) ns ns) ns (secF S) ∧ VOwn c3 4 1 w9 (.slice (some ⟨c3, 0, none⟩) nd nd) nd (boolF D) ∧ Box w9 w7.heap.size 42 #[.bool ok, .slice (some ⟨c2, 0, none⟩) ns ns, .slice (some ⟨c3, 0, none⟩) nd nd] ∧ VOwn b4 68 2 w9 (.slice (some ⟨b4, 0, none⟩) n n) n (intF K)) := ⟨H13.out.1.mono hb9 (Nat.le_refl _), H13.out.2.1.mono hb9 (Nat.le_refl _), H13.out.2.2.1.trans (hb9.mono H13.out.2.2.1.size), H13.out.2.2.2.1.mono (Nat.le_refl _) hb9 (Nat.le_refl _), H13.out.2.2.2.2.1.mono hb9 (Nat.le_refl _), H13.out.2.2.2.2.2.1.mono (Nat.le_refl _) hb9 (Nat.le_refl _), H13.out.2.2.2.2.2.2.1.mono (Nat.le_refl _) hb9 (Nat.le_refl _), H13.out.2.2.2.2.2.2.2.mono hb9 (Nat.le_refl _), o9⟩; have mA0 : w9.cell? ⟨w.heap.size, 0, none⟩ = some (.int .i64 sec) := H14.out.1.cell 0; have mA1 : w9.cell? ⟨w.heap.size, 1, none⟩ = some (.slice a n cap) := H14.out.1.cell 1; have mX0 : w9.cell? ⟨w6.heap.size, 0, none⟩ = some (.int .i64 sec) := H14.out.2.2.2.2.1.cell 0; have mX1 : w9.cell? ⟨w6.heap.size, 1, none⟩ = some (.slice (some ⟨c1, 0, none⟩) n n) := H14.out.2.2.2.2.1.cell 1)
        | (go_at_call 13; refine (eqLayout sec (some ⟨c1, 0, none⟩) (some ⟨b4, 0, none⟩) n n n K _ hn (H14.out.2.2.2.1.vs.le (Nat.zero_le _)) (H14.out.2.2.2.2.2.2.2.2.vs.le (Nat.zero_le _))).mono ?_; rintro e w10 ⟨rfl, hb10⟩; have H15 : Hid (Box w10 w.heap.size 24 #[.int .i64 sec, .slice a n cap] ∧ Box w10 (w.heap.size + 1) 54 #[.bool ok, .slice sa ns sc, .slice da nd dc] ∧ Below w.heap.size w w10 ∧ VOwn c1 68 2 w10 (.slice (some ⟨c1, 0, none⟩) n n) n (intF K) ∧ Box w10 w6.heap.size 29 #[.int .i64 sec, .slice (some ⟨c1, 0, none⟩) n n] ∧ VOwn c2 84 5 w10 (.slice (some ⟨c2, 0, none⟩) ns ns) ns (secF S) ∧ VOwn c3 4 1 w10 (.slice (some ⟨c3, 0, none⟩) nd nd) nd (boolF D) ∧ Box w10 w7.heap.size 42 #[.bool ok, .slice (some ⟨c2, 0, none⟩) ns ns, .slice (some ⟨c3, 0, none⟩) nd nd]) := ⟨H14.out.1.mono hb10 (Nat.le_refl _), H14.out.2.1.mono hb10 (Nat.le_refl _), H14.out.2.2.1.trans (hb10.mono H14.out.2.2.1.size), H14.out.2.2.2.1.mono (Nat.le_refl _) hb10 (Nat.le_refl _), H14.out.2.2.2.2.1.mono hb10 (Nat.le_refl _), H14.out.2.2.2.2.2.1.mono (Nat.le_refl _) hb10 (Nat.le_refl _), H14.out.2.2.2.2.2.2.1.mono (Nat.le_refl _) hb10 (Nat.le_refl _), H14.out.2.2.2.2.2.2.2.1.mono hb10 (Nat.le_refl _)⟩; have mA0 : w10.cell? ⟨w.heap.size, 0, none⟩ = some (.int .i64 sec) := H15.out.1.cell 0; have mA1 : w10.cell? ⟨w.heap.size, 1, none⟩ = some (.slice a n cap) := H15.out.1.cell 1; have mX0 : w10.cell? ⟨w6.heap.size, 0, none⟩ = some (.int .i64 sec) := H15.out.2.2.2.2.1.cell 0; have mX1 : w10.cell? ⟨w6.heap.size, 1, none⟩ = some (.slice (some ⟨c1, 0, none⟩) n n) := H15.out.2.2.2.2.1.cell 1))
      clear dA0 dA1 dX0 dX1 mA0 mA1 mX0 mX1
      clear hb9 hb10 o9
      have uS0 : w10.cell? ⟨(w.heap.size + 1), 0, none⟩ = some (.bool ok) := H15.out.2.1.cell 0
      have uS1 : w10.cell? ⟨(w.heap.size + 1), 1, none⟩ = some (.slice sa ns sc) := H15.out.2.1.cell 1
      have uS2 : w10.cell? ⟨(w.heap.size + 1), 2, none⟩ = some (.slice da nd dc) := H15.out.2.1.cell 2
      have uY0 : w10.cell? ⟨w7.heap.size, 0, none⟩ = some (.bool ok) := H15.out.2.2.2.2.2.2.2.cell 0
      have uY1 : w10.cell? ⟨w7.heap.size, 1, none⟩ = some (.slice (some ⟨c2, 0, none⟩) ns ns) := H15.out.2.2.2.2.2.2.2.cell 1
      have uY2 : w10.cell? ⟨w7.heap.size, 2, none⟩ = some (.slice (some ⟨c3, 0, none⟩) nd nd) := H15.out.2.2.2.2.2.2.2.cell 2
      have ultS : (w.heap.size + 1) < w10.heap.size := H15.out.2.1.lt
      have ultY : w7.heap.size < w10.heap.size := H15.out.2.2.2.2.2.2.2.lt
      go_wp2_with fail
      clear uS0 uS1 uS2 uY0 uY1 uY2 ultS ultY
      have H16 : Hid (Box w10.drew w.heap.size 24 #[.int .i64 sec, .slice a n cap] ∧ Box w10.drew (w.heap.size + 1) 54 #[.bool ok, .slice sa ns sc, .slice da nd dc] ∧ Below w.heap.size w w10.drew ∧ VOwn c1 68 2 w10.drew (.slice (some ⟨c1, 0, none⟩) n n) n (intF K) ∧ Box w10.drew w6.heap.size 29 #[.int .i64 sec, .slice (some ⟨c1, 0, none⟩) n n] ∧ VOwn c2 84 5 w10.drew (.slice (some ⟨c2, 0, none⟩) ns ns) ns (secF S) ∧ VOwn c3 4 1 w10.drew (.slice (some ⟨c3, 0, none⟩) nd nd) nd (boolF D) ∧ Box w10.drew w7.heap.size 42 #[.bool ok, .slice (some ⟨c2, 0, none⟩) ns ns, .slice (some ⟨c3, 0, none⟩) nd nd]) := ⟨H15.out.1.drew, H15.out.2.1.drew, H15.out.2.2.1.drew, H15.out.2.2.2.1.drew, H15.out.2.2.2.2.1.drew, H15.out.2.2.2.2.2.1.drew, H15.out.2.2.2.2.2.2.1.drew, H15.out.2.2.2.2.2.2.2.drew⟩
      clear H15
      have dS0 : w10.drew.cell? ⟨(w.heap.size + 1), 0, none⟩ = some (.bool ok) := H16.out.2.1.cell 0
      have dS1 : w10.drew.cell? ⟨(w.heap.size + 1), 1, none⟩ = some (.slice sa ns sc) := H16.out.2.1.cell 1
      have dS2 : w10.drew.cell? ⟨(w.heap.size + 1), 2, none⟩ = some (.slice da nd dc) := H16.out.2.1.cell 2
      have dY0 : w10.drew.cell? ⟨w7.heap.size, 0, none⟩ = some (.bool ok) := H16.out.2.2.2.2.2.2.2.cell 0
      have dY1 : w10.drew.cell? ⟨w7.heap.size, 1, none⟩ = some (.slice (some ⟨c2, 0, none⟩) ns ns) := H16.out.2.2.2.2.2.2.2.cell 1
      have dY2 : w10.drew.cell? ⟨w7.heap.size, 2, none⟩ = some (.slice (some ⟨c3, 0, none⟩) nd nd) := H16.out.2.2.2.2.2.2.2.cell 2
      go_region_held3 (fun w' => w'.cell? ⟨(w.heap.size + 1), 0, none⟩ = some (.bool ok) ∧ w'.cell? ⟨(w.heap.size + 1), 1, none⟩ = some (.slice sa ns sc) ∧ w'.cell? ⟨(w.heap.size + 1), 2, none⟩ = some (.slice da nd dc) ∧ w'.cell? ⟨w7.heap.size, 0, none⟩ = some (.bool ok) ∧ w'.cell? ⟨w7.heap.size, 1, none⟩ = some (.slice (some ⟨c2, 0, none⟩) ns ns) ∧ w'.cell? ⟨w7.heap.size, 2, none⟩ = some (.slice (some ⟨c3, 0, none⟩) nd nd)) (go_keep) (first
        | (go_at_call 30; refine (toCountState ok sa da ns nd sc dc S D _ hns2 hnd2 (HE.out.2.1.mono (Nat.le_refl _) H16.out.2.2.1 (Nat.le_refl _)) (HE.out.2.2.mono (Nat.le_refl _) H16.out.2.2.1 (Nat.le_refl _))).mono ?_; rintro e w11 ⟨b5, b6, hkb5, hkb6, rfl, o11, o11x, hb11⟩; have H17 : Hid (Box w11 w.heap.size 24 #[.int .i64 sec, .slice a n cap] ∧ Box w11 (w.heap.size + 1) 54 #[.bool ok, .slice sa ns sc, .slice da nd dc] ∧ Below w.heap.size w w11 ∧ VOwn c1 68 2 w11 (.slice (some ⟨c1, 0, none⟩) n n) n (intF K) ∧ Box w11 w6.heap.size 29 #[.int .i64 sec, .slice (some ⟨c1, 0, none⟩) n n] ∧ VOwn c2 84 5 w11 (.slice (some ⟨c2, 0, none⟩) ns ns) ns (secF S) ∧ VOwn c3 4 1 w11 (.slice (some ⟨c3, 0, none⟩) nd nd) nd (boolF D) ∧ Box w11 w7.heap.size 42 #[.bool ok, .slice (some ⟨c2, 0, none⟩) ns ns, .slice (some ⟨c3, 0, none⟩) nd nd] ∧ VOwn b5 84 5 w11 (.slice (some ⟨b5, 0, none⟩) ns ns) ns (secF S) ∧ VOwn b6 4 1 w11 (.slice (some ⟨b6, 0, none⟩) nd nd) nd (boolF D)) := ⟨H16.out.1.mono hb11 (Nat.le_refl _), H16.out.2.1.mono hb11 (Nat.le_refl _), H16.out.2.2.1.trans (hb11.mono H16.out.2.2.1.size), H16.out.2.2.2.1.mono (Nat.le_refl _) hb11 (Nat.le_refl _), H16.out.2.2.2.2.1.mono hb11 (Nat.le_refl _), H16.out.2.2.2.2.2.1.mono (Nat.le_refl _) hb11 (Nat.le_refl _), H16.out.2.2.2.2.2.2.1.mono (Nat.le_refl _) hb11 (Nat.le_refl _), H16.out.2.2.2.2.2.2.2.mono hb11 (Nat.le_refl _), o11, o11x⟩; have mS0 : w11.cell? ⟨(w.heap.size + 1), 0, none⟩ = some (.bool ok) := H17.out.2.1.cell 0; have mS1 : w11.cell? ⟨(w.heap.size + 1), 1, none⟩ = some (.slice sa ns sc) := H17.out.2.1.cell 1; have mS2 : w11.cell? ⟨(w.heap.size + 1), 2, none⟩ = some (.slice da nd dc) := H17.out.2.1.cell 2; have mY0 : w11.cell? ⟨w7.heap.size, 0, none⟩ = some (.bool ok) := H17.out.2.2.2.2.2.2.2.1.cell 0; have mY1 : w11.cell? ⟨w7.heap.size, 1, none⟩ = some (.slice (some ⟨c2, 0, none⟩) ns ns) := H17.out.2.2.2.2.2.2.2.1.cell 1; have mY2 : w11.cell? ⟨w7.heap.size, 2, none⟩ = some (.slice (some ⟨c3, 0, none⟩) nd nd) := H17.out.2.2.2.2.2.2.2.1.cell 2)
        | (go_at_call 22; refine (eqCountState ok (some ⟨c2, 0, none⟩) (some ⟨c3, 0, none⟩) (some ⟨b5, 0, none⟩) (some ⟨b6, 0, none⟩) ns nd ns nd ns nd S D _ hns2 hnd2 (H17.out.2.2.2.2.2.1.vs.le (Nat.zero_le _)) (H17.out.2.2.2.2.2.2.1.vs.le (Nat.zero_le _)) (H17.out.2.2.2.2.2.2.2.2.1.vs.le (Nat.zero_le _)) (H17.out.2.2.2.2.2.2.2.2.2.vs.le (Nat.zero_le _))).mono ?_; rintro e w12 ⟨rfl, hb12⟩; have H18 : Hid (Box w12 w.heap.size 24 #[.int .i64 sec, .slice a n cap] ∧ Box w12 (w.heap.size + 1) 54 #[.bool ok, .slice sa ns sc, .slice da nd dc] ∧ Below w.heap.size w w12 ∧ VOwn c1 68 2 w12 (.slice (some ⟨c1, 0, none⟩) n n) n (intF K) ∧ Box w12 w6.heap.size 29 #[.int .i64 sec, .slice (some ⟨c1, 0, none⟩) n n] ∧ VOwn c2 84 5 w12 (.slice (some ⟨c2, 0, none⟩) ns ns) ns (secF S) ∧ VOwn c3 4 1 w12 (.slice (some ⟨c3, 0, none⟩) nd nd) nd (boolF D) ∧ Box w12 w7.heap.size 42 #[.bool ok, .slice (some ⟨c2, 0, none⟩) ns ns, .slice (some ⟨c3, 0, none⟩) nd nd]) := ⟨H17.out.1.mono hb12 (Nat.le_refl _), H17.out.2.1.mono hb12 (Nat.le_refl _), H17.out.2.2.1.trans (hb12.mono H17.out.2.2.1.size), H17.out.2.2.2.1.mono (Nat.le_refl _) hb12 (Nat.le_refl _), H17.out.2.2.2.2.1.mono hb12 (Nat.le_refl _), H17.out.2.2.2.2.2.1.mono (Nat.le_refl _) hb12 (Nat.le_refl _), H17.out.2.2.2.2.2.2.1.mono (Nat.le_refl _) hb12 (Nat.le_refl _), H17.out.2.2.2.2.2.2.2.1.mono hb12 (Nat.le_refl _)⟩; have mS0 : w12.cell? ⟨(w.heap.size + 1), 0, none⟩ = some (.bool ok) := H18.out.2.1.cell 0; have mS1 : w12.cell? ⟨(w.heap.size + 1), 1, none⟩ = some (.slice sa ns sc) := H18.out.2.1.cell 1; have mS2 : w12.cell? ⟨(w.heap.size + 1), 2, none⟩ = some (.slice da nd dc) := H18.out.2.1.cell 2; have mY0 : w12.cell? ⟨w7.heap.size, 0, none⟩ = some (.bool ok) := H18.out.2.2.2.2.2.2.2.cell 0; have mY1 : w12.cell? ⟨w7.heap.size, 1, none⟩ = some (.slice (some ⟨c2, 0, none⟩) ns ns) := H18.out.2.2.2.2.2.2.2.cell 1; have mY2 : w12.cell? ⟨w7.heap.size, 2, none⟩ = some (.slice (some ⟨c3, 0, none⟩) nd nd) := H18.out.2.2.2.2.2.2.2.cell 2))
      clear dS0 dS1 dS2 dY0 dY1 dY2 mS0 mS1 mS2 mY0 mY1 mY2
      go_wp2_with fail
      go_ret
      exact ⟨rfl, H18.out.2.2.1⟩

end Go.Proofs.Ytmcaohablpaknaa
