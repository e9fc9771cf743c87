import Derived.Test.YtmcaohablpaknaaTo
import Derived.Test.YtmcaohablpaknaaLa
import Derived.Test.YtmcaohablpaknaaSz
import Derived.Test.YtmcaohablpaknaaEq
import Derived.Test.YtmcaohablpaknaaMk
namespace Go.Proofs.Ytmcaohablpaknaa
open Go.RowKit

set_option maxHeartbeats 1000000 in
theorem szLayout (sec : Int) (a : Option Addr) (n cap : Nat) (left : Int) (w : World) (hs : n ≤ maxLen) (h0 : 0 ≤ left) (h1 : left ≤ 1048576) :
    Calls Try.prog 9 #[.agg #[.int .i64 sec, .slice a n cap], .int .i64 left] w fun e w' => e = .returned (.int .i64 (szL left n)) ∧ Below w.heap.size w w' := by
  go_enter Try.func9, Try.ntmps9
  go_wp2_with fail
  refine (szCounterS a n cap left _ hs h0 h1).mono ?_
  rintro e w1 ⟨rfl, rfl⟩
  have he : szL left n < 0 → szL left n = -1 := fun hneg => by unfold szL at hneg ⊢; split <;> omega
  generalize hr : szL left n = r at he
  by_cases hneg : r < 0
  · obtain rfl := he hneg
    go_wp2_with fail
    go_ret
    exact ⟨by rw [hr]; rfl, bel1 _ _⟩
  · clear he
    go_wp2_with fail
    go_ret
    exact ⟨by rw [hr]; rfl, bel1 _ _⟩

set_option maxHeartbeats 1000000 in
theorem szCountState (ok : Bool) (sa da : Option Addr) (ns nd sc dc : Nat) (left : Int) (w : World) (hs : ns ≤ maxLen) (hd : nd ≤ maxLen) (h0 : 0 ≤ left) (h1 : left ≤ 1048576) :
    Calls Try.prog 28 #[.agg #[.bool ok, .slice sa ns sc, .slice da nd dc], .int .i64 left] w fun e w' => ∃ r : Int, e = .returned (.int .i64 r) ∧ (¬ r < 0 → (ns : Int) + nd ≤ left) ∧ Below w.heap.size w w' := by
  go_enter Try.func28, Try.ntmps28
  go_wp2_with fail
  refine (szSectionS sa ns sc left _ hs h0 h1).mono ?_
  rintro e w1 ⟨rfl, rfl⟩
  have hp := @szL_pos left ns
  generalize hr : szL left ns = r at hp
  by_cases hneg : r < 0
  · clear hp
    go_wp2_with fail
    go_ret
    exact ⟨-1, rfl, fun h => absurd h (by omega), bel1 _ _⟩
  · have P : Hid ((ns : Int) ≤ left ∧ r = left - ns) := hp hneg
    have r0 : 0 ≤ r := by omega
    have r1 : r ≤ 1048576 := by have := P.out; omega
    clear hr hp
    go_wp2_with fail
    refine (szBoolS da nd dc r _ hd r0 r1).mono ?_
    rintro e w1 ⟨rfl, rfl⟩
    have hq := @szL_pos r nd
    generalize hr2 : szL r nd = r2 at hq
    by_cases hneg2 : r2 < 0
    · clear hq
      go_wp2_with fail
      go_ret
      exact ⟨-1, rfl, fun h => absurd h (by omega), bel1 _ _⟩
    · have P2 : Hid ((nd : Int) ≤ r ∧ r2 = r - nd) := hq hneg2
      clear hr2 hq
      go_wp2_with fail
      go_ret
      exact ⟨r2, rfl, fun _ => by have := P.out; have := P2.out; omega, bel1 _ _⟩

set_option maxHeartbeats 2000000 in
theorem toLayout (sec : Int) (a : Option Addr) (n cap : Nat) (K : Nat → Nat → Int) (w : World) (hn : n ≤ 1048576) (hE : VsAt 2 0 w a n (intF K)) :
    Calls Try.prog 11 #[.agg #[.int .i64 sec, .slice a n cap]] w fun e w' => ∃ b, w.heap.size ≤ b ∧ e = .returned (.agg #[.int .i64 sec, .slice (some ⟨b, 0, none⟩) n n]) ∧ VOwn b 68 2 w' (.slice (some ⟨b, 0, none⟩) n n) n (intF K) ∧ Below w.heap.size w w' := by
  have HE : Hid (VsAt 2 0 w a n (intF K)) := hE
  clear hE
  go_enter Try.func11, Try.ntmps11
  go_wp2_with fail
  have B1 := bel3 w (.cells #[.int .i64 sec, .slice a n cap] 24) (.cells #[.int .i64 0, .slice none 0 0] 29) (.cells #[.int .i64 sec, .slice none 0 0] 29)
  have R1 := (Box.new (w.alloc (.cells #[.int .i64 sec, .slice a n cap] 24)) 29 #[.int .i64 0, .slice none 0 0]).alloc (.cells #[.int .i64 sec, .slice none 0 0] 29)
  have O1 := Box.new ((w.alloc (.cells #[.int .i64 sec, .slice a n cap] 24)).alloc (.cells #[.int .i64 0, .slice none 0 0] 29)) 29 #[.int .i64 sec, .slice none 0 0]
  have z1 : (w.alloc (.cells #[.int .i64 sec, .slice a n cap] 24)).heap.size = w.heap.size + 1 := by simp
  have z2 : ((w.alloc (.cells #[.int .i64 sec, .slice a n cap] 24)).alloc (.cells #[.int .i64 0, .slice none 0 0] 29)).heap.size = w.heap.size + 1 + 1 := by simp
  rw [z1] at R1
  rw [z2] at O1
  refine (toCounterS a n cap K _ hn (HE.out.mono (Nat.le_refl _) B1 (Nat.le_refl _))).mono ?_
  rintro e w1 ⟨b1, hb1, rfl, o1, hl1⟩
  have R11 := R1.mono hl1 (Nat.le_refl _)
  have O11 := O1.mono hl1 (Nat.le_refl _)
  have B11 := B1.trans (hl1.mono B1.size)
  have hk1 : w.heap.size + 1 + 1 < b1 := by rw [hb1]; simp
  clear hl1 hb1 R1 O1 B1 z1 z2
  have xo0 : w1.cell? ⟨w.heap.size + 1 + 1, 0, none⟩ = some (.int .i64 sec) := O11.cell 0
  have xo1 : w1.cell? ⟨w.heap.size + 1 + 1, 1, none⟩ = some (.slice none 0 0) := O11.cell 1
  have xr0 : w1.cell? ⟨w.heap.size + 1, 0, none⟩ = some (.int .i64 0) := R11.cell 0
  have xr1 : w1.cell? ⟨w.heap.size + 1, 1, none⟩ = some (.slice none 0 0) := R11.cell 1
  have f0 := O11.free 0
  have f1 := O11.free 1
  have g0 := R11.free 0
  have g1 := R11.free 1
  have HB : Hid (Below w.heap.size w w1) := B11
  have HO : Hid (VOwn b1 68 2 w1 (.slice (some ⟨b1, 0, none⟩) n n) n (intF K)) := o1
  clear R11 O11 B11 o1
  go_wp2_with fail
  have h1 : w.heap.size ≤ w.heap.size + 1 := by omega
  have h2 : w.heap.size ≤ w.heap.size + 1 + 1 := by omega
  refine bodyPost_ret (v := .agg #[.int .i64 sec, .slice (some ⟨b1, 0, none⟩) n n]) (by simp [results, Try.results11, go_sem, xr0, xr1]) rfl ⟨b1, by omega, rfl, HO.out.keep (Nat.le_refl _) (fun g hg => ?_), ((HB.out.setCell h2 _).setCell h1 _).setCell h1 _⟩
  simp only [Value.ownBlock, Option.some.injEq] at hg
  have h1 : g ≠ w.heap.size + 1 := by omega
  have h2 : g ≠ w.heap.size + 1 + 1 := by omega
  rw [Below.heap_setCell _ _ _ _ h1, Below.heap_setCell _ _ _ _ h1, Below.heap_setCell _ _ _ _ h2]

set_option maxHeartbeats 2000000 in
theorem toCountState (ok : Bool) (sa da : Option Addr) (ns nd sc dc : Nat) (S : Nat → Sec) (D : Nat → Bool) (w : World) (hn : ns ≤ 1048576) (hm : nd ≤ 1048576) (hE : VsAt 5 0 w sa ns (secF S)) (hD : VsAt 1 0 w da nd (boolF D)) :
    Calls Try.prog 30 #[.agg #[.bool ok, .slice sa ns sc, .slice da nd dc]] w fun e w' => ∃ b b', w.heap.size ≤ b ∧ b < b' ∧ e = .returned (.agg #[.bool ok, .slice (some ⟨b, 0, none⟩) ns ns, .slice (some ⟨b', 0, none⟩) nd nd]) ∧ VOwn b 84 5 w' (.slice (some ⟨b, 0, none⟩) ns ns) ns (secF S) ∧ VOwn b' 4 1 w' (.slice (some ⟨b', 0, none⟩) nd nd) nd (boolF D) ∧ Below w.heap.size w w' := by
  have HE : Hid (VsAt 5 0 w sa ns (secF S)) := hE
  have HD : Hid (VsAt 1 0 w da nd (boolF D)) := hD
  clear hE hD
  go_enter Try.func30, Try.ntmps30
  go_wp2_with fail
  have B1 := bel3 w (.cells #[.bool ok, .slice sa ns sc, .slice da nd dc] 54) (.cells #[.bool false, .slice none 0 0, .slice none 0 0] 42) (.cells #[.bool ok, .slice none 0 0, .slice none 0 0] 42)
  have A1 := ((Box.new w 54 #[.bool ok, .slice sa ns sc, .slice da nd dc]).alloc (.cells #[.bool false, .slice none 0 0, .slice none 0 0] 42)).alloc (.cells #[.bool ok, .slice none 0 0, .slice none 0 0] 42)
  have R1 := (Box.new (w.alloc (.cells #[.bool ok, .slice sa ns sc, .slice da nd dc] 54)) 42 #[.bool false, .slice none 0 0, .slice none 0 0]).alloc (.cells #[.bool ok, .slice none 0 0, .slice none 0 0] 42)
  have O1 := Box.new ((w.alloc (.cells #[.bool ok, .slice sa ns sc, .slice da nd dc] 54)).alloc (.cells #[.bool false, .slice none 0 0, .slice none 0 0] 42)) 42 #[.bool ok, .slice none 0 0, .slice none 0 0]
  have z1 : (w.alloc (.cells #[.bool ok, .slice sa ns sc, .slice da nd dc] 54)).heap.size = w.heap.size + 1 := by simp
  have z2 : ((w.alloc (.cells #[.bool ok, .slice sa ns sc, .slice da nd dc] 54)).alloc (.cells #[.bool false, .slice none 0 0, .slice none 0 0] 42)).heap.size = w.heap.size + 1 + 1 := by simp
  rw [z1] at R1
  rw [z2] at O1
  refine (toSectionS sa ns sc S _ hn (HE.out.mono (Nat.le_refl _) B1 (Nat.le_refl _))).mono ?_
  rintro e w1 ⟨b1, hb1, rfl, o1, hl1⟩
  have A11 := A1.mono hl1 (Nat.le_refl _)
  have R11 := R1.mono hl1 (Nat.le_refl _)
  have O11 := O1.mono hl1 (Nat.le_refl _)
  have B11 := B1.trans (hl1.mono B1.size)
  have hk1 : w.heap.size + 1 + 1 < b1 := by rw [hb1]; simp
  have hz1 : b1 < w1.heap.size := (o1.lt rfl).2
  clear hl1 hb1 A1 R1 O1 B1 z1 z2
  have xa2 : w1.cell? ⟨w.heap.size, 2, none⟩ = some (.slice da nd dc) := A11.cell 2
  have xo1 : w1.cell? ⟨w.heap.size + 1 + 1, 1, none⟩ = some (.slice none 0 0) := O11.cell 1
  have f1 := O11.free 1
  have HH : Hid (Box w1 (w.heap.size + 1) 42 _ ∧ Box w1 (w.heap.size + 1 + 1) 42 _ ∧ Below w.heap.size w w1) := ⟨R11, O11, B11⟩
  have HO : Hid (VOwn b1 84 5 w1 (.slice (some ⟨b1, 0, none⟩) ns ns) ns (secF S)) := o1
  clear A11 R11 O11 B11 o1
  go_wp2_with fail
  obtain ⟨R11, O11, B11⟩ := HH.out
  have R2 := R11.other (p := ⟨w.heap.size + 1 + 1, 1, none⟩) (by show w.heap.size + 1 ≠ w.heap.size + 1 + 1; omega) (.slice (some ⟨b1, 0, none⟩) ns ns)
  have O2 := O11.set 1 (.slice (some ⟨b1, 0, none⟩) ns ns)
  have B2 := B11.setCell (p := ⟨w.heap.size + 1 + 1, 1, none⟩) (by show w.heap.size ≤ w.heap.size + 1 + 1; omega) (.slice (some ⟨b1, 0, none⟩) ns ns)
  have o1 := HO.out.keep (Nat.le_refl _) (fun g hg => Below.heap_setCell w1 ⟨w.heap.size + 1 + 1, 1, none⟩ (.slice (some ⟨b1, 0, none⟩) ns ns) g (by simp only [Value.ownBlock, Option.some.injEq] at hg; show g ≠ w.heap.size + 1 + 1; omega))
  clear HH R11 O11 B11 xa2 xo1 f1 HO
  refine (toBoolS da nd dc D _ hm (HD.out.mono (Nat.le_refl _) B2 (Nat.le_refl _))).mono ?_
  rintro e w2 ⟨b2, hb2, rfl, o2, hl2⟩
  have R3 := R2.mono hl2 (Nat.le_refl _)
  have O3 := O2.mono hl2 (Nat.le_refl _)
  have B3 := B2.trans (hl2.mono B2.size)
  have o1 := o1.mono (Nat.le_refl _) hl2 (Nat.le_refl _)
  have hk2 : b1 < b2 := by rw [hb2, size_setc]; exact hz1
  clear hl2 hb2 R2 O2 B2 hz1
  have xo0 : w2.cell? ⟨w.heap.size + 1 + 1, 0, none⟩ = some (.bool ok) := O3.cell 0
  have xo1 : w2.cell? ⟨w.heap.size + 1 + 1, 1, none⟩ = some (.slice (some ⟨b1, 0, none⟩) ns ns) := O3.cell 1
  have xo2 : w2.cell? ⟨w.heap.size + 1 + 1, 2, none⟩ = some (.slice none 0 0) := O3.cell 2
  have xr0 : w2.cell? ⟨w.heap.size + 1, 0, none⟩ = some (.bool false) := R3.cell 0
  have xr1 : w2.cell? ⟨w.heap.size + 1, 1, none⟩ = some (.slice none 0 0) := R3.cell 1
  have xr2 : w2.cell? ⟨w.heap.size + 1, 2, none⟩ = some (.slice none 0 0) := R3.cell 2
  have f0 := O3.free 2
  have g0 := R3.free 0
  have g1 := R3.free 1
  have g2 := R3.free 2
  have HB : Hid (Below w.heap.size w w2) := B3
  have HO1 : Hid (VOwn b1 84 5 w2 (.slice (some ⟨b1, 0, none⟩) ns ns) ns (secF S)) := o1
  have HO2 : Hid (VOwn b2 4 1 w2 (.slice (some ⟨b2, 0, none⟩) nd nd) nd (boolF D)) := o2
  clear R3 O3 B3 o1 o2
  go_wp2_with fail
  have h1 : w.heap.size ≤ w.heap.size + 1 := by omega
  have h2 : w.heap.size ≤ w.heap.size + 1 + 1 := by omega
  refine bodyPost_ret (v := .agg #[.bool ok, .slice (some ⟨b1, 0, none⟩) ns ns, .slice (some ⟨b2, 0, none⟩) nd nd]) (by simp [results, Try.results30, go_sem, xr0, xr1, xr2]) rfl ⟨b1, b2, by omega, hk2, rfl, HO1.out.keep (Nat.le_refl _) (fun g hg => ?_), HO2.out.keep (Nat.le_refl _) (fun g hg => ?_), (((HB.out.setCell h2 _).setCell h1 _).setCell h1 _).setCell h1 _⟩
  all_goals
    simp only [Value.ownBlock, Option.some.injEq] at hg
    have h1 : g ≠ w.heap.size + 1 := by omega
    have h2 : g ≠ w.heap.size + 1 + 1 := by omega
    rw [Below.heap_setCell _ _ _ _ h1, Below.heap_setCell _ _ _ _ h1, Below.heap_setCell _ _ _ _ h1, Below.heap_setCell _ _ _ _ h2]

set_option maxHeartbeats 1000000 in
theorem toCountEvent (op of dir : Int) (w : World) :
    Calls Try.prog 26 #[.agg #[.int .i64 op, .int .i64 of, .int .i64 dir]] w fun e w' => e = .returned (.agg #[.int .i64 op, .int .i64 of, .int .i64 dir]) ∧ Below w.heap.size w w' := by
  go_enter Try.func26, Try.ntmps26
  go_wp2
  exact bodyPost_ret (v := .agg #[.int .i64 op, .int .i64 of, .int .i64 dir]) (by simp [results, Try.results26, go_sem]) rfl ⟨rfl, bel3 _ _ _ _⟩

set_option maxHeartbeats 1000000 in
theorem eqLayout (sec : Int) (a a' : Option Addr) (n cap cap' : Nat) (K : Nat → Nat → Int) (w : World) (hn : n ≤ 1048576) (hE : VsAt 2 0 w a n (intF K)) (hE' : VsAt 2 0 w a' n (intF K)) :
    Calls Try.prog 13 #[.agg #[.int .i64 sec, .slice a n cap], .agg #[.int .i64 sec, .slice a' n cap']] w fun e w' => e = .returned (.bool true) ∧ Below w.heap.size w w' := by
  have HE : Hid (VsAt 2 0 w a n (intF K)) := hE
  have HE' : Hid (VsAt 2 0 w a' n (intF K)) := hE'
  clear hE hE'
  go_enter Try.func13, Try.ntmps13
  go_wp2_with fail
  have B1 := bel2 w (.cells #[.int .i64 sec, .slice a n cap] 29) (.cells #[.int .i64 sec, .slice a' n cap'] 29)
  refine (eqCounterS a a' n cap cap' K _ hn (HE.out.mono (Nat.le_refl _) B1 (Nat.le_refl _)) (HE'.out.mono (Nat.le_refl _) B1 (Nat.le_refl _))).mono ?_
  rintro e w1 ⟨rfl, hb1⟩
  go_wp2_with fail
  go_ret
  exact ⟨rfl, B1.trans (hb1.mono B1.size)⟩

set_option maxHeartbeats 2000000 in
theorem eqCountState (ok : Bool) (sa da sa' da' : Option Addr) (ns nd sc dc sc' dc' : Nat) (S : Nat → Sec) (D : Nat → Bool) (w : World) (hn : ns ≤ 1048576) (hm : nd ≤ 1048576) (hE : VsAt 5 0 w sa ns (secF S)) (hD : VsAt 1 0 w da nd (boolF D)) (hE' : VsAt 5 0 w sa' ns (secF S)) (hD' : VsAt 1 0 w da' nd (boolF D)) :
    Calls Try.prog 22 #[.agg #[.bool ok, .slice sa ns sc, .slice da nd dc], .agg #[.bool ok, .slice sa' ns sc', .slice da' nd dc']] w fun e w' => e = .returned (.bool true) ∧ Below w.heap.size w w' := by
  have HE : Hid (VsAt 5 0 w sa ns (secF S) ∧ VsAt 1 0 w da nd (boolF D) ∧ VsAt 5 0 w sa' ns (secF S) ∧ VsAt 1 0 w da' nd (boolF D)) := ⟨hE, hD, hE', hD'⟩
  clear hE hE' hD hD'
  go_enter Try.func22, Try.ntmps22
  go_wp2_with fail
  have B1 := bel2 w (.cells #[.bool ok, .slice sa ns sc, .slice da nd dc] 42) (.cells #[.bool ok, .slice sa' ns sc', .slice da' nd dc'] 42)
  have A1 := (Box.new w 42 #[.bool ok, .slice sa ns sc, .slice da nd dc]).alloc (.cells #[.bool ok, .slice sa' ns sc', .slice da' nd dc'] 42)
  have A2 := Box.new (w.alloc (.cells #[.bool ok, .slice sa ns sc, .slice da nd dc] 42)) 42 #[.bool ok, .slice sa' ns sc', .slice da' nd dc']
  have z1 : (w.alloc (.cells #[.bool ok, .slice sa ns sc, .slice da nd dc] 42)).heap.size = w.heap.size + 1 := by simp
  rw [z1] at A2
  refine (eqSectionS sa sa' ns sc sc' S _ hn (HE.out.1.mono (Nat.le_refl _) B1 (Nat.le_refl _)) (HE.out.2.2.1.mono (Nat.le_refl _) B1 (Nat.le_refl _))).mono ?_
  rintro e w1 ⟨rfl, hb1⟩
  have x1 : w1.cell? ⟨w.heap.size, 2, none⟩ = some (.slice da nd dc) := (A1.mono hb1 (Nat.le_refl _)).cell 2
  have x2 : w1.cell? ⟨w.heap.size + 1, 2, none⟩ = some (.slice da' nd dc') := (A2.mono hb1 (Nat.le_refl _)).cell 2
  have B2 := B1.trans (hb1.mono B1.size)
  clear A1 A2 hb1 B1 z1
  have HB : Hid (Below w.heap.size w w1) := B2
  clear B2
  go_wp2_with fail
  refine (eqBoolS da da' nd dc dc' D _ hm (HE.out.2.1.mono (Nat.le_refl _) HB.out (Nat.le_refl _)) (HE.out.2.2.2.mono (Nat.le_refl _) HB.out (Nat.le_refl _))).mono ?_
  rintro e w2 ⟨rfl, hb2⟩
  go_wp2_with fail
  go_ret
  exact ⟨rfl, HB.out.trans (hb2.mono HB.out.size)⟩

set_option maxHeartbeats 2000000 in
theorem eqCountDone (code : Int) (ok : Bool) (sa da sa' da' : Option Addr) (ns nd sc dc sc' dc' : Nat) (S : Nat → Sec) (D : Nat → Bool) (w : World) (hn : ns ≤ 1048576) (hm : nd ≤ 1048576) (hE : VsAt 5 0 w sa ns (secF S)) (hD : VsAt 1 0 w da nd (boolF D)) (hE' : VsAt 5 0 w sa' ns (secF S)) (hD' : VsAt 1 0 w da' nd (boolF D)) :
    Calls Try.prog 32 #[.agg #[.int .i64 code, .bool ok, .slice sa ns sc, .slice da nd dc], .agg #[.int .i64 code, .bool ok, .slice sa' ns sc', .slice da' nd dc']] w fun e w' => e = .returned (.bool true) ∧ Below w.heap.size w w' := by
  have HE : Hid (VsAt 5 0 w sa ns (secF S) ∧ VsAt 1 0 w da nd (boolF D) ∧ VsAt 5 0 w sa' ns (secF S) ∧ VsAt 1 0 w da' nd (boolF D)) := ⟨hE, hD, hE', hD'⟩
  clear hE hE' hD hD'
  go_enter Try.func32, Try.ntmps32
  go_wp2_with fail
  have B1 := bel2 w (.cells #[.int .i64 code, .bool ok, .slice sa ns sc, .slice da nd dc] 57) (.cells #[.int .i64 code, .bool ok, .slice sa' ns sc', .slice da' nd dc'] 57)
  refine (eqCountState ok sa da sa' da' ns nd sc dc sc' dc' S D _ hn hm (HE.out.1.mono (Nat.le_refl _) B1 (Nat.le_refl _)) (HE.out.2.1.mono (Nat.le_refl _) B1 (Nat.le_refl _)) (HE.out.2.2.1.mono (Nat.le_refl _) B1 (Nat.le_refl _)) (HE.out.2.2.2.mono (Nat.le_refl _) B1 (Nat.le_refl _))).mono ?_
  rintro e w1 ⟨rfl, hb1⟩
  go_wp2_with fail
  go_ret
  exact ⟨rfl, B1.trans (hb1.mono B1.size)⟩

set_option maxHeartbeats 1000000 in
theorem markLayout (sec : Int) (a : Option Addr) (n cap k b off : Nat) (w : World) (hn : n ≤ 1048576) (hk : k ≤ 1152921504606846976) (hb : b < w.heap.size) (ha : 0 < n → a = some ⟨b, off, none⟩)
    (hw : ∀ o, off ≤ o → o < off + n * 2 → (∃ v, w.cell? ⟨b, o, none⟩ = some v) ∧ w.frozen? ⟨b, o, none⟩ = false) :
    Calls Try.prog 17 #[.agg #[.int .i64 sec, .slice a n cap], .int .i64 k] w fun e w' => e = .returned (.int .i64 ((k + n * 2 : Nat) : Int)) ∧ Fr (fun g => g = b) w w' := by
  have Hw : Hid (∀ o, off ≤ o → o < off + n * 2 → (∃ v, w.cell? ⟨b, o, none⟩ = some v) ∧ w.frozen? ⟨b, o, none⟩ = false) := hw
  clear hw
  go_enter Try.func17, Try.ntmps17
  go_wp2_with fail
  have B1 := bel1 w (.cells #[.int .i64 sec, .slice a n cap] 29)
  refine (markCounterS a n cap k b off _ hn hk ha (fun o h1 h2 => ?_)).mono ?_
  · obtain ⟨⟨v, hv⟩, hf⟩ := Hw.out o h1 h2
    exact ⟨⟨v, ((bcell B1).1 b o hb).trans hv⟩, ((bcell B1).2 b o hb).trans hf⟩
  · rintro e w1 ⟨rfl, hW, _⟩
    go_wp2_with fail
    go_ret
    exact ⟨rfl, (Fr.of_below B1).trans (hW.fr (X := fun g => g = b) rfl)⟩

end Go.Proofs.Ytmcaohablpaknaa
