import Derived.Test.YtflomaagenjfpaaMd
namespace Go.Proofs.Ytflomaagenjfpaa
open Go.RowKit

set_option maxHeartbeats 1000000 in
theorem eqBoolS (a a' : Option Addr) (n cap cap' : Nat) (D : Nat → Bool) (w : World) (hn : n ≤ 1048576) (hE : VsAt 1 0 w a n (boolF D)) (hE' : VsAt 1 0 w a' n (boolF D)) :
    Calls Try.prog 27 #[.slice a n cap, .slice a' n cap'] w fun e w' => e = .returned (.bool true) ∧ Below w.heap.size w w' := by
  go_enter Try.func27, Try.ntmps27
  go_wp2_with fail
  go_loopw [5] (fun i wr => ∃ (k : Nat), k ≤ n ∧ i = .int .i64 k ∧ Below w.heap.size w wr) (fun i _ => n - (intOf i).toNat)
  case atStart => exact ⟨0, Nat.zero_le _, rfl, Below.refl _ _⟩
  case round =>
    obtain ⟨k, hk, rfl, hbel⟩ := hrel
    by_cases hlt : k < n
    · obtain ⟨b, off, rfl, _, hb, hc⟩ := (hE.mono (Nat.le_refl _) hbel (Nat.le_refl _)) (by omega)
      obtain ⟨b', off', rfl, _, hb', hc'⟩ := (hE'.mono (Nat.le_refl _) hbel (Nat.le_refl _)) (by omega)
      have c0 : wr.cell? ⟨b, off + k, none⟩ = some (.bool (D k)) := by have := hc k hlt 0 (by omega); rwa [Nat.mul_one] at this
      have d0 : wr.cell? ⟨b', off' + k, none⟩ = some (.bool (D k)) := by have := hc' k hlt 0 (by omega); rwa [Nat.mul_one] at this
      have hlt' : (k : Int) < (n : Int) := by omega
      have hk0 : (0 : Int) ≤ (k : Int) := by omega
      clear hc hc'
      go_wp2_with fail
      go_quiet (fail)
      go_wp2_with fail
      go_roundw
      case rel => exact ⟨k + 1, by omega, by go_num, below_drewN hbel _⟩
      case measure => simp [intOf]; omega
    · go_wp2
      go_ret
      exact ⟨rfl, hbel⟩

set_option maxHeartbeats 1000000 in
theorem eqIntS (a a' : Option Addr) (n cap cap' : Nat) (F : Nat → Nat → Int) (w : World) (hn : n ≤ 1048576) (hE : VsAt 1 0 w a n (intF F)) (hE' : VsAt 1 0 w a' n (intF F)) :
    Calls Try.prog 13 #[.slice a n cap, .slice a' n cap'] w fun e w' => e = .returned (.bool true) ∧ Below w.heap.size w w' := by
  go_enter Try.func13, Try.ntmps13
  go_wp2_with fail
  go_loopw [5] (fun i wr => ∃ (k : Nat), k ≤ n ∧ i = .int .i64 k ∧ Below w.heap.size w wr) (fun i _ => n - (intOf i).toNat)
  case atStart => exact ⟨0, Nat.zero_le _, rfl, Below.refl _ _⟩
  case round =>
    obtain ⟨k, hk, rfl, hbel⟩ := hrel
    by_cases hlt : k < n
    · obtain ⟨b, off, rfl, _, hb, hc⟩ := (hE.mono (Nat.le_refl _) hbel (Nat.le_refl _)) (by omega)
      obtain ⟨b', off', rfl, _, hb', hc'⟩ := (hE'.mono (Nat.le_refl _) hbel (Nat.le_refl _)) (by omega)
      have c0 : wr.cell? ⟨b, off + k, none⟩ = some (.int .i64 (F k 0)) := by have := hc k hlt 0 (by omega); rwa [Nat.mul_one] at this
      have d0 : wr.cell? ⟨b', off' + k, none⟩ = some (.int .i64 (F k 0)) := by have := hc' k hlt 0 (by omega); rwa [Nat.mul_one] at this
      have hlt' : (k : Int) < (n : Int) := by omega
      have hk0 : (0 : Int) ≤ (k : Int) := by omega
      clear hc hc'
      go_wp2_with fail
      go_quiet (fail)
      go_wp2_with fail
      go_roundw
      case rel => exact ⟨k + 1, by omega, by go_num, below_drewN hbel _⟩
      case measure => simp [intOf]; omega
    · go_wp2
      go_ret
      exact ⟨rfl, hbel⟩

set_option maxRecDepth 100000 in
set_option maxHeartbeats 2000000 in
theorem eqBoolSS (a a' : Option Addr) (n cap cap' : Nat) (K : Nat → Nat) (T : Nat → Nat → Bool) (w : World) (hn : n ≤ 1048576) (hL : ∀ i, i < n → K i ≤ 1048576) (hR : BsAt 0 w a n K T) (hR' : BsAt 0 w a' n K T) :
    Calls Try.prog 28 #[.slice a n cap, .slice a' n cap'] w fun e w' => e = .returned (.bool true) ∧ Below w.heap.size w w' := by
  have HL : Hid (∀ i, i < n → K i ≤ 1048576) := hL
  clear hL
  go_enter Try.func28, Try.ntmps28
  go_wp2_with fail
  go_loopw [5] (fun i wr => ∃ (k : Nat), k ≤ n ∧ i = .int .i64 k ∧ Below w.heap.size w wr) (fun i _ => n - (intOf i).toNat)
  case atStart => exact ⟨0, Nat.zero_le _, rfl, Below.refl _ _⟩
  case round =>
    obtain ⟨k, hk, rfl, hbel⟩ := hrel
    by_cases hlt : k < n
    · obtain ⟨b, off, rfl, _, hb, hc⟩ := (hR.mono (Nat.le_refl _) hbel.drew (Nat.le_refl _)) (by omega)
      obtain ⟨b', off', rfl, _, hb', hc'⟩ := (hR'.mono (Nat.le_refl _) hbel.drew (Nat.le_refl _)) (by omega)
      obtain ⟨ra, rc, c0, g⟩ := hc k hlt
      obtain ⟨ra', rc', d0, g'⟩ := hc' k hlt
      have hlt' : (k : Int) < (n : Int) := by omega
      have hk0 : (0 : Int) ≤ (k : Int) := by omega
      have G : Hid (VsAt 1 0 wr.drew ra (K k) (boolF (T k))) := g
      have G' : Hid (VsAt 1 0 wr.drew ra' (K k) (boolF (T k))) := g'
      have c00 : wr.cell? _ = _ := c0
      have d00 : wr.cell? _ = _ := d0
      clear hc hc' g g' c0 d0
      go_wp2_with fail
      go_region_with (go_at_call 27; refine (eqBoolS ra ra' (K k) rc rc' (T k) _ (HL.out k hlt) G.out G'.out).mono ?_; rintro e w1 ⟨rfl, hb1⟩)
      all_goals
        go_wp2_with fail
        go_roundw
        case rel => exact ⟨k + 1, by omega, by go_num, hbel.drew.trans (hb1.mono hbel.drew.size)⟩
        case measure => simp [intOf]; omega
    · go_wp2
      go_ret
      exact ⟨rfl, hbel⟩

set_option maxRecDepth 100000 in
set_option maxHeartbeats 4000000 in
theorem eqRow (r : Rw) (xa fa oa ka xa' fa' oa' ka' : Option Addr) (xc fc oc kc xc' fc' oc' kc' : Nat) (w : World) (hs : r.small) (h : RwIn 0 w r xa fa oa ka) (h' : RwIn 0 w r xa' fa' oa' ka') :
    Calls Try.prog 10 #[.agg #[.slice xa r.nn xc, .slice fa r.nf fc, .slice oa r.no oc, .slice ka r.nk kc], .agg #[.slice xa' r.nn xc', .slice fa' r.nf fc', .slice oa' r.no oc', .slice ka' r.nk kc']] w fun e w' => e = .returned (.bool true) ∧ Below w.heap.size w w' := by
  obtain ⟨s1, s2, s3, s4, s5⟩ := hs
  have HS : Hid (∀ i, i < r.nk → r.K i ≤ 1048576) := s5
  have H : Hid (RwIn 0 w r xa fa oa ka ∧ RwIn 0 w r xa' fa' oa' ka') := ⟨h, h'⟩
  clear h h' s5
  go_enter Try.func10, Try.ntmps10
  go_wp2_with fail
  have B0 := bel2 w (.cells #[.slice xa r.nn xc, .slice fa r.nf fc, .slice oa r.no oc, .slice ka r.nk kc] 29) (.cells #[.slice xa' r.nn xc', .slice fa' r.nf fc', .slice oa' r.no oc', .slice ka' r.nk kc'] 29)
  have A1 := (Box.new w 29 #[.slice xa r.nn xc, .slice fa r.nf fc, .slice oa r.no oc, .slice ka r.nk kc]).alloc (.cells #[.slice xa' r.nn xc', .slice fa' r.nf fc', .slice oa' r.no oc', .slice ka' r.nk kc'] 29)
  have A2 := Box.new (w.alloc (.cells #[.slice xa r.nn xc, .slice fa r.nf fc, .slice oa r.no oc, .slice ka r.nk kc] 29)) 29 #[.slice xa' r.nn xc', .slice fa' r.nf fc', .slice oa' r.no oc', .slice ka' r.nk kc']
  have z1 : (w.alloc (.cells #[.slice xa r.nn xc, .slice fa r.nf fc, .slice oa r.no oc, .slice ka r.nk kc] 29)).heap.size = w.heap.size + 1 := by simp
  rw [z1] at A2
  have HB0 : Hid (Below w.heap.size w ((w.alloc (.cells #[.slice xa r.nn xc, .slice fa r.nf fc, .slice oa r.no oc, .slice ka r.nk kc] 29)).alloc (.cells #[.slice xa' r.nn xc', .slice fa' r.nf fc', .slice oa' r.no oc', .slice ka' r.nk kc'] 29)) ∧ Box _ w.heap.size 29 _ ∧ Box _ (w.heap.size + 1) 29 _) := ⟨B0, A1, A2⟩
  clear B0 A1 A2 z1
  refine (eqIntS xa xa' r.nn xc xc' (fun i _ => r.X i) _ s1 (H.out.1.x.mono (Nat.le_refl _) HB0.out.1 (Nat.le_refl _)) (H.out.2.x.mono (Nat.le_refl _) HB0.out.1 (Nat.le_refl _))).mono ?_
  rintro e w1 ⟨rfl, hb1⟩
  have HB1 : Hid (Below w.heap.size w w1 ∧ Box w1 w.heap.size 29 #[.slice xa r.nn xc, .slice fa r.nf fc, .slice oa r.no oc, .slice ka r.nk kc] ∧ Box w1 (w.heap.size + 1) 29 #[.slice xa' r.nn xc', .slice fa' r.nf fc', .slice oa' r.no oc', .slice ka' r.nk kc']) := ⟨HB0.out.1.trans (hb1.mono HB0.out.1.size), HB0.out.2.1.mono hb1 (Nat.le_refl _), HB0.out.2.2.mono hb1 (Nat.le_refl _)⟩
  clear hb1 HB0
  have xa1 : w1.cell? ⟨w.heap.size, 1, none⟩ = some (.slice fa r.nf fc) := HB1.out.2.1.cell 1
  have xb1 : w1.cell? ⟨w.heap.size + 1, 1, none⟩ = some (.slice fa' r.nf fc') := HB1.out.2.2.cell 1
  go_wp2_with fail
  clear xa1 xb1
  refine (eqIntS fa fa' r.nf fc fc' (fun i _ => r.F i) _ s2 (H.out.1.f.mono (Nat.le_refl _) HB1.out.1 (Nat.le_refl _)) (H.out.2.f.mono (Nat.le_refl _) HB1.out.1 (Nat.le_refl _))).mono ?_
  rintro e w2 ⟨rfl, hb2⟩
  have HB2 : Hid (Below w.heap.size w w2 ∧ Box w2 w.heap.size 29 #[.slice xa r.nn xc, .slice fa r.nf fc, .slice oa r.no oc, .slice ka r.nk kc] ∧ Box w2 (w.heap.size + 1) 29 #[.slice xa' r.nn xc', .slice fa' r.nf fc', .slice oa' r.no oc', .slice ka' r.nk kc']) := ⟨HB1.out.1.trans (hb2.mono HB1.out.1.size), HB1.out.2.1.mono hb2 (Nat.le_refl _), HB1.out.2.2.mono hb2 (Nat.le_refl _)⟩
  clear hb2 HB1
  have xa2 : w2.cell? ⟨w.heap.size, 2, none⟩ = some (.slice oa r.no oc) := HB2.out.2.1.cell 2
  have xb2 : w2.cell? ⟨w.heap.size + 1, 2, none⟩ = some (.slice oa' r.no oc') := HB2.out.2.2.cell 2
  go_wp2_with fail
  clear xa2 xb2
  refine (eqBoolS oa oa' r.no oc oc' r.O _ s3 (H.out.1.o.mono (Nat.le_refl _) HB2.out.1 (Nat.le_refl _)) (H.out.2.o.mono (Nat.le_refl _) HB2.out.1 (Nat.le_refl _))).mono ?_
  rintro e w3 ⟨rfl, hb3⟩
  have HB3 : Hid (Below w.heap.size w w3 ∧ Box w3 w.heap.size 29 #[.slice xa r.nn xc, .slice fa r.nf fc, .slice oa r.no oc, .slice ka r.nk kc] ∧ Box w3 (w.heap.size + 1) 29 #[.slice xa' r.nn xc', .slice fa' r.nf fc', .slice oa' r.no oc', .slice ka' r.nk kc']) := ⟨HB2.out.1.trans (hb3.mono HB2.out.1.size), HB2.out.2.1.mono hb3 (Nat.le_refl _), HB2.out.2.2.mono hb3 (Nat.le_refl _)⟩
  clear hb3 HB2
  have xa3 : w3.cell? ⟨w.heap.size, 3, none⟩ = some (.slice ka r.nk kc) := HB3.out.2.1.cell 3
  have xb3 : w3.cell? ⟨w.heap.size + 1, 3, none⟩ = some (.slice ka' r.nk kc') := HB3.out.2.2.cell 3
  go_wp2_with fail
  clear xa3 xb3
  refine (eqBoolSS ka ka' r.nk kc kc' r.K r.T _ s4 HS.out (H.out.1.k.mono (Nat.le_refl _) HB3.out.1 (Nat.le_refl _)) (H.out.2.k.mono (Nat.le_refl _) HB3.out.1 (Nat.le_refl _))).mono ?_
  rintro e w4 ⟨rfl, hb4⟩
  have HB4 : Hid (Below w.heap.size w w4 ∧ Box w4 w.heap.size 29 #[.slice xa r.nn xc, .slice fa r.nf fc, .slice oa r.no oc, .slice ka r.nk kc] ∧ Box w4 (w.heap.size + 1) 29 #[.slice xa' r.nn xc', .slice fa' r.nf fc', .slice oa' r.no oc', .slice ka' r.nk kc']) := ⟨HB3.out.1.trans (hb4.mono HB3.out.1.size), HB3.out.2.1.mono hb4 (Nat.le_refl _), HB3.out.2.2.mono hb4 (Nat.le_refl _)⟩
  clear hb4 HB3
  go_wp2_with fail
  go_ret
  exact ⟨rfl, HB4.out.1⟩

end Go.Proofs.Ytflomaagenjfpaa
