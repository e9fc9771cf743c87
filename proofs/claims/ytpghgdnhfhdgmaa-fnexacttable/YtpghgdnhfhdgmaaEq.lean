import Derived.Test.YtpghgdnhfhdgmaaBa
namespace Go.Proofs.Ytpghgdnhfhdgmaa
open Go.RowKit

theorem eqStep93 (a0 a1 : Int) (w : World) :
    Calls Try.prog 56 #[.agg #[.int .i64 a0, .int .i64 a1], .agg #[.int .i64 a0, .int .i64 a1]] w fun e w' => e = .returned (.bool true) ∧ Below w.heap.size w w' := by
  go_enter Try.func56, Try.ntmps56
  go_wp2
  go_ret
  exact ⟨rfl, bel2 _ _ _⟩

theorem eqLie94 (a0 a1 : Int) (w : World) :
    Calls Try.prog 37 #[.agg #[.int .i64 a0, .int .i64 a1], .agg #[.int .i64 a0, .int .i64 a1]] w fun e w' => e = .returned (.bool true) ∧ Below w.heap.size w w' := by
  go_enter Try.func37, Try.ntmps37
  go_wp2
  go_ret
  exact ⟨rfl, bel2 _ _ _⟩

theorem eqPart95 (a0 a1 a2 : Int) (w : World) :
    Calls Try.prog 57 #[.agg #[.int .i64 a0, .int .i64 a1, .int .i64 a2], .agg #[.int .i64 a0, .int .i64 a1, .int .i64 a2]] w fun e w' => e = .returned (.bool true) ∧ Below w.heap.size w w' := by
  go_enter Try.func57, Try.ntmps57
  go_wp2
  go_ret
  exact ⟨rfl, bel2 _ _ _⟩

theorem eqFlank96 (a0 a1 a2 a3 : Int) (w : World) :
    Calls Try.prog 58 #[.agg #[.int .i64 a0, .int .i64 a1, .int .i64 a2, .int .i64 a3], .agg #[.int .i64 a0, .int .i64 a1, .int .i64 a2, .int .i64 a3]] w fun e w' => e = .returned (.bool true) ∧ Below w.heap.size w w' := by
  go_enter Try.func58, Try.ntmps58
  go_wp2
  go_ret
  exact ⟨rfl, bel2 _ _ _⟩

set_option maxHeartbeats 1000000 in
theorem eqStepS82 (a a' : Option Addr) (n cap cap' : Nat) (F : Nat → Nat → Int) (w : World) (hn : n ≤ 1048576) (hE : NsAt 2 0 w a n F) (hE' : NsAt 2 0 w a' n F) :
    Calls Try.prog 38 #[.slice a n cap, .slice a' n cap'] w fun e w' => e = .returned (.bool true) ∧ Below w.heap.size w w' := by
  go_enter Try.func38, Try.ntmps38
  go_wp2_with fail
  go_loopw [5] (fun i wr => ∃ (k : Nat), k ≤ n ∧ i = .int .i64 k ∧ Below w.heap.size w wr) (fun i _ => n - (intOf i).toNat)
  case atStart => exact ⟨0, Nat.zero_le _, rfl, Below.refl _ _⟩
  case round =>
    obtain ⟨k, hk, rfl, hbel⟩ := hrel
    by_cases hlt : k < n
    · obtain ⟨b, off, rfl, _, hb, hc⟩ := (hE.mono (Nat.le_refl _) hbel (Nat.le_refl _)) (by omega)
      obtain ⟨b', off', rfl, _, hb', hc'⟩ := (hE'.mono (Nat.le_refl _) hbel (Nat.le_refl _)) (by omega)
      have c0 : wr.cell? ⟨b, off + k * 2, none⟩ = some (.int .i64 (F k 0)) := hc k hlt 0 (by omega)
      have c1 : wr.cell? ⟨b, off + k * 2 + 1, none⟩ = some (.int .i64 (F k 1)) := hc k hlt 1 (by omega)
      have d0 : wr.cell? ⟨b', off' + k * 2, none⟩ = some (.int .i64 (F k 0)) := hc' k hlt 0 (by omega)
      have d1 : wr.cell? ⟨b', off' + k * 2 + 1, none⟩ = some (.int .i64 (F k 1)) := hc' k hlt 1 (by omega)
      have hlt' : (k : Int) < (n : Int) := by omega
      have hk0 : (0 : Int) ≤ (k : Int) := by omega
      clear hc hc'
      go_wp2_with fail
      go_region_with (go_at_call 56; refine (eqStep93 (F k 0) (F k 1) _).mono ?_; rintro e w1 ⟨rfl, hb1⟩)
      all_goals
        go_wp2_with fail
        go_roundw
        case rel => exact ⟨k + 1, by omega, by go_num, hbel.drew.trans (hb1.mono hbel.drew.size)⟩
        case measure => simp [intOf]; omega
    · go_wp2
      go_ret
      exact ⟨rfl, hbel⟩

set_option maxHeartbeats 1000000 in
theorem eqLieS83 (a a' : Option Addr) (n cap cap' : Nat) (F : Nat → Nat → Int) (w : World) (hn : n ≤ 1048576) (hE : NsAt 2 0 w a n F) (hE' : NsAt 2 0 w a' n F) :
    Calls Try.prog 10 #[.slice a n cap, .slice a' n cap'] w fun e w' => e = .returned (.bool true) ∧ Below w.heap.size w w' := by
  go_enter Try.func10, Try.ntmps10
  go_wp2_with fail
  go_loopw [5] (fun i wr => ∃ (k : Nat), k ≤ n ∧ i = .int .i64 k ∧ Below w.heap.size w wr) (fun i _ => n - (intOf i).toNat)
  case atStart => exact ⟨0, Nat.zero_le _, rfl, Below.refl _ _⟩
  case round =>
    obtain ⟨k, hk, rfl, hbel⟩ := hrel
    by_cases hlt : k < n
    · obtain ⟨b, off, rfl, _, hb, hc⟩ := (hE.mono (Nat.le_refl _) hbel (Nat.le_refl _)) (by omega)
      obtain ⟨b', off', rfl, _, hb', hc'⟩ := (hE'.mono (Nat.le_refl _) hbel (Nat.le_refl _)) (by omega)
      have c0 : wr.cell? ⟨b, off + k * 2, none⟩ = some (.int .i64 (F k 0)) := hc k hlt 0 (by omega)
      have c1 : wr.cell? ⟨b, off + k * 2 + 1, none⟩ = some (.int .i64 (F k 1)) := hc k hlt 1 (by omega)
      have d0 : wr.cell? ⟨b', off' + k * 2, none⟩ = some (.int .i64 (F k 0)) := hc' k hlt 0 (by omega)
      have d1 : wr.cell? ⟨b', off' + k * 2 + 1, none⟩ = some (.int .i64 (F k 1)) := hc' k hlt 1 (by omega)
      have hlt' : (k : Int) < (n : Int) := by omega
      have hk0 : (0 : Int) ≤ (k : Int) := by omega
      clear hc hc'
      go_wp2_with fail
      go_region_with (go_at_call 37; refine (eqLie94 (F k 0) (F k 1) _).mono ?_; rintro e w1 ⟨rfl, hb1⟩)
      all_goals
        go_wp2_with fail
        go_roundw
        case rel => exact ⟨k + 1, by omega, by go_num, hbel.drew.trans (hb1.mono hbel.drew.size)⟩
        case measure => simp [intOf]; omega
    · go_wp2
      go_ret
      exact ⟨rfl, hbel⟩

set_option maxHeartbeats 1000000 in
theorem eqPartS85 (a a' : Option Addr) (n cap cap' : Nat) (F : Nat → Nat → Int) (w : World) (hn : n ≤ 1048576) (hE : NsAt 3 0 w a n F) (hE' : NsAt 3 0 w a' n F) :
    Calls Try.prog 40 #[.slice a n cap, .slice a' n cap'] w fun e w' => e = .returned (.bool true) ∧ Below w.heap.size w w' := by
  go_enter Try.func40, Try.ntmps40
  go_wp2_with fail
  go_loopw [5] (fun i wr => ∃ (k : Nat), k ≤ n ∧ i = .int .i64 k ∧ Below w.heap.size w wr) (fun i _ => n - (intOf i).toNat)
  case atStart => exact ⟨0, Nat.zero_le _, rfl, Below.refl _ _⟩
  case round =>
    obtain ⟨k, hk, rfl, hbel⟩ := hrel
    by_cases hlt : k < n
    · obtain ⟨b, off, rfl, _, hb, hc⟩ := (hE.mono (Nat.le_refl _) hbel (Nat.le_refl _)) (by omega)
      obtain ⟨b', off', rfl, _, hb', hc'⟩ := (hE'.mono (Nat.le_refl _) hbel (Nat.le_refl _)) (by omega)
      have c0 : wr.cell? ⟨b, off + k * 3, none⟩ = some (.int .i64 (F k 0)) := hc k hlt 0 (by omega)
      have c1 : wr.cell? ⟨b, off + k * 3 + 1, none⟩ = some (.int .i64 (F k 1)) := hc k hlt 1 (by omega)
      have c2 : wr.cell? ⟨b, off + k * 3 + 2, none⟩ = some (.int .i64 (F k 2)) := hc k hlt 2 (by omega)
      have d0 : wr.cell? ⟨b', off' + k * 3, none⟩ = some (.int .i64 (F k 0)) := hc' k hlt 0 (by omega)
      have d1 : wr.cell? ⟨b', off' + k * 3 + 1, none⟩ = some (.int .i64 (F k 1)) := hc' k hlt 1 (by omega)
      have d2 : wr.cell? ⟨b', off' + k * 3 + 2, none⟩ = some (.int .i64 (F k 2)) := hc' k hlt 2 (by omega)
      have hlt' : (k : Int) < (n : Int) := by omega
      have hk0 : (0 : Int) ≤ (k : Int) := by omega
      clear hc hc'
      go_wp2_with fail
      go_region_with (go_at_call 57; refine (eqPart95 (F k 0) (F k 1) (F k 2) _).mono ?_; rintro e w1 ⟨rfl, hb1⟩)
      all_goals
        go_wp2_with fail
        go_roundw
        case rel => exact ⟨k + 1, by omega, by go_num, hbel.drew.trans (hb1.mono hbel.drew.size)⟩
        case measure => simp [intOf]; omega
    · go_wp2
      go_ret
      exact ⟨rfl, hbel⟩

set_option maxHeartbeats 1000000 in
theorem eqFlankS86 (a a' : Option Addr) (n cap cap' : Nat) (F : Nat → Nat → Int) (w : World) (hn : n ≤ 1048576) (hE : NsAt 4 0 w a n F) (hE' : NsAt 4 0 w a' n F) :
    Calls Try.prog 41 #[.slice a n cap, .slice a' n cap'] w fun e w' => e = .returned (.bool true) ∧ Below w.heap.size w w' := by
  go_enter Try.func41, Try.ntmps41
  go_wp2_with fail
  go_loopw [5] (fun i wr => ∃ (k : Nat), k ≤ n ∧ i = .int .i64 k ∧ Below w.heap.size w wr) (fun i _ => n - (intOf i).toNat)
  case atStart => exact ⟨0, Nat.zero_le _, rfl, Below.refl _ _⟩
  case round =>
    obtain ⟨k, hk, rfl, hbel⟩ := hrel
    by_cases hlt : k < n
    · obtain ⟨b, off, rfl, _, hb, hc⟩ := (hE.mono (Nat.le_refl _) hbel (Nat.le_refl _)) (by omega)
      obtain ⟨b', off', rfl, _, hb', hc'⟩ := (hE'.mono (Nat.le_refl _) hbel (Nat.le_refl _)) (by omega)
      have c0 : wr.cell? ⟨b, off + k * 4, none⟩ = some (.int .i64 (F k 0)) := hc k hlt 0 (by omega)
      have c1 : wr.cell? ⟨b, off + k * 4 + 1, none⟩ = some (.int .i64 (F k 1)) := hc k hlt 1 (by omega)
      have c2 : wr.cell? ⟨b, off + k * 4 + 2, none⟩ = some (.int .i64 (F k 2)) := hc k hlt 2 (by omega)
      have c3 : wr.cell? ⟨b, off + k * 4 + 3, none⟩ = some (.int .i64 (F k 3)) := hc k hlt 3 (by omega)
      have d0 : wr.cell? ⟨b', off' + k * 4, none⟩ = some (.int .i64 (F k 0)) := hc' k hlt 0 (by omega)
      have d1 : wr.cell? ⟨b', off' + k * 4 + 1, none⟩ = some (.int .i64 (F k 1)) := hc' k hlt 1 (by omega)
      have d2 : wr.cell? ⟨b', off' + k * 4 + 2, none⟩ = some (.int .i64 (F k 2)) := hc' k hlt 2 (by omega)
      have d3 : wr.cell? ⟨b', off' + k * 4 + 3, none⟩ = some (.int .i64 (F k 3)) := hc' k hlt 3 (by omega)
      have hlt' : (k : Int) < (n : Int) := by omega
      have hk0 : (0 : Int) ≤ (k : Int) := by omega
      clear hc hc'
      go_wp2_with fail
      go_region_with (go_at_call 58; refine (eqFlank96 (F k 0) (F k 1) (F k 2) (F k 3) _).mono ?_; rintro e w1 ⟨rfl, hb1⟩)
      all_goals
        go_wp2_with fail
        go_roundw
        case rel => exact ⟨k + 1, by omega, by go_num, hbel.drew.trans (hb1.mono hbel.drew.size)⟩
        case measure => simp [intOf]; omega
    · go_wp2
      go_ret
      exact ⟨rfl, hbel⟩

set_option maxHeartbeats 1000000 in
theorem eqIntS84 (a a' : Option Addr) (n cap cap' : Nat) (F : Nat → Nat → Int) (w : World) (hn : n ≤ 1048576) (hE : NsAt 1 0 w a n F) (hE' : NsAt 1 0 w a' n F) :
    Calls Try.prog 39 #[.slice a n cap, .slice a' n cap'] w fun e w' => e = .returned (.bool true) ∧ Below w.heap.size w w' := by
  go_enter Try.func39, Try.ntmps39
  go_wp2_with fail
  go_loopw [5] (fun i wr => ∃ (k : Nat), k ≤ n ∧ i = .int .i64 k ∧ Below w.heap.size w wr) (fun i _ => n - (intOf i).toNat)
  case atStart => exact ⟨0, Nat.zero_le _, rfl, Below.refl _ _⟩
  case round =>
    obtain ⟨k, hk, rfl, hbel⟩ := hrel
    by_cases hlt : k < n
    · obtain ⟨b, off, rfl, _, hb, hc⟩ := (hE.mono (Nat.le_refl _) hbel (Nat.le_refl _)) (by omega)
      obtain ⟨b', off', rfl, _, hb', hc'⟩ := (hE'.mono (Nat.le_refl _) hbel (Nat.le_refl _)) (by omega)
      have c0 : wr.cell? ⟨b, off + k, none⟩ = some (.int .i64 (F k 0)) := by have := hc k hlt 0 (by omega); rwa [Nat.mul_one] at this
      have d0 : wr.cell? ⟨b', off' + k, none⟩ = some (.int .i64 (F k 0)) := by have := hc' k hlt 0 (by omega); rwa [Nat.mul_one] at this
      have hlt' : (k : Int) < (n : Int) := by omega
      have hk0 : (0 : Int) ≤ (k : Int) := by omega
      clear hc hc'
      go_wp2_with fail
      go_quiet (fail)
      go_wp2_with fail
      go_roundw
      case rel => exact ⟨k + 1, by omega, by go_num, below_drewN hbel _⟩
      case measure => simp [intOf]; omega
    · go_wp2
      go_ret
      exact ⟨rfl, hbel⟩

set_option maxHeartbeats 2000000 in
theorem eqRoute48 (r : Rt) (sa la xa qa oa fa sa' la' xa' qa' oa' fa' : Option Addr) (sc lc xc qc oc fc sc' lc' xc' qc' oc' fc' : Nat) (w : World) (hs : r.small) (h : RtIn 0 w r sa la xa qa oa fa) (h' : RtIn 0 w r sa' la' xa' qa' oa' fa') :
    Calls Try.prog 11 #[.agg #[.int .i64 r.fr, .int .i64 r.to, .slice sa r.ns sc, .slice la r.nl lc, .slice xa r.nx xc, .slice qa r.np qc, .slice oa r.no oc, .slice fa r.nf fc],
      .agg #[.int .i64 r.fr, .int .i64 r.to, .slice sa' r.ns sc', .slice la' r.nl lc', .slice xa' r.nx xc', .slice qa' r.np qc', .slice oa' r.no oc', .slice fa' r.nf fc']] w fun e w' => e = .returned (.bool true) ∧ Below w.heap.size w w' := by
  obtain ⟨s1, s2, s3, s4, s5, s6⟩ := hs
  go_enter Try.func11, Try.ntmps11
  go_wp2_with fail
  have b0 := bel2 w (.cells #[.int .i64 r.fr, .int .i64 r.to, .slice sa r.ns sc, .slice la r.nl lc, .slice xa r.nx xc, .slice qa r.np qc, .slice oa r.no oc, .slice fa r.nf fc] 36) (.cells #[.int .i64 r.fr, .int .i64 r.to, .slice sa' r.ns sc', .slice la' r.nl lc', .slice xa' r.nx xc', .slice qa' r.np qc', .slice oa' r.no oc', .slice fa' r.nf fc'] 36)
  have g := h.mono (Nat.le_refl _) b0 (Nat.le_refl _)
  have g' := h'.mono (Nat.le_refl _) b0 (Nat.le_refl _)
  refine (eqStepS82 sa sa' r.ns sc sc' r.S _ s1 g.s g'.s).mono ?_
  rintro e w1 ⟨rfl, hb1⟩
  have g := g.mono (Nat.le_refl _) hb1 (Nat.le_refl _)
  have g' := g'.mono (Nat.le_refl _) hb1 (Nat.le_refl _)
  have B1 := hb1
  obtain ⟨hc1, _⟩ := bcell B1
  have G : Hid (RtIn 0 w1 r sa la xa qa oa fa) := g
  have G' : Hid (RtIn 0 w1 r sa' la' xa' qa' oa' fa') := g'
  clear g g' hb1 h h'
  go_wp2_with fail
  refine (eqLieS83 la la' r.nl lc lc' r.L _ s2 G.out.l G'.out.l).mono ?_
  rintro e w2 ⟨rfl, hb1⟩
  have G2 : Hid (RtIn 0 w2 r sa la xa qa oa fa) := G.out.mono (Nat.le_refl _) hb1 (Nat.le_refl _)
  have G2' : Hid (RtIn 0 w2 r sa' la' xa' qa' oa' fa') := G'.out.mono (Nat.le_refl _) hb1 (Nat.le_refl _)
  have B2 := B1.trans (hb1.mono B1.size)
  clear hc1 hb1 B1 G G'
  obtain ⟨hc1, _⟩ := bcell B2
  go_wp2_with fail
  refine (eqIntS84 xa xa' r.nx xc xc' r.X _ s3 G2.out.x G2'.out.x).mono ?_
  rintro e w3 ⟨rfl, hb1⟩
  have G3 : Hid (RtIn 0 w3 r sa la xa qa oa fa) := G2.out.mono (Nat.le_refl _) hb1 (Nat.le_refl _)
  have G3' : Hid (RtIn 0 w3 r sa' la' xa' qa' oa' fa') := G2'.out.mono (Nat.le_refl _) hb1 (Nat.le_refl _)
  have B3 := B2.trans (hb1.mono B2.size)
  clear hc1 hb1 B2 G2 G2'
  obtain ⟨hc1, _⟩ := bcell B3
  go_wp2_with fail
  refine (eqPartS85 qa qa' r.np qc qc' r.Q _ s4 G3.out.q G3'.out.q).mono ?_
  rintro e w4 ⟨rfl, hb1⟩
  have G4 : Hid (RtIn 0 w4 r sa la xa qa oa fa) := G3.out.mono (Nat.le_refl _) hb1 (Nat.le_refl _)
  have G4' : Hid (RtIn 0 w4 r sa' la' xa' qa' oa' fa') := G3'.out.mono (Nat.le_refl _) hb1 (Nat.le_refl _)
  have B4 := B3.trans (hb1.mono B3.size)
  clear hc1 hb1 B3 G3 G3'
  obtain ⟨hc1, _⟩ := bcell B4
  go_wp2_with fail
  refine (eqPartS85 oa oa' r.no oc oc' r.O _ s5 G4.out.o G4'.out.o).mono ?_
  rintro e w5 ⟨rfl, hb1⟩
  have G5 : Hid (RtIn 0 w5 r sa la xa qa oa fa) := G4.out.mono (Nat.le_refl _) hb1 (Nat.le_refl _)
  have G5' : Hid (RtIn 0 w5 r sa' la' xa' qa' oa' fa') := G4'.out.mono (Nat.le_refl _) hb1 (Nat.le_refl _)
  have B5 := B4.trans (hb1.mono B4.size)
  clear hc1 hb1 B4 G4 G4'
  obtain ⟨hc1, _⟩ := bcell B5
  go_wp2_with fail
  refine (eqFlankS86 fa fa' r.nf fc fc' r.F _ s6 G5.out.f G5'.out.f).mono ?_
  rintro e w6 ⟨rfl, hb1⟩
  have B6 := B5.trans (hb1.mono B5.size)
  clear hc1 hb1 B5 G5 G5'
  go_wp2_with fail
  go_ret
  exact ⟨rfl, b0.trans (B6.mono b0.size)⟩

set_option maxHeartbeats 2000000 in
theorem eqRouteS19 (a a' : Option Addr) (n cap cap' : Nat) (R : Nat → Rt) (w : World) (hn : n ≤ 1048576) (hsm : ∀ i, i < n → (R i).small) (hR : RsAt 0 w a n R) (hR' : RsAt 0 w a' n R) :
    Calls Try.prog 22 #[.slice a n cap, .slice a' n cap'] w fun e w' => e = .returned (.bool true) ∧ Below w.heap.size w w' := by
  have HS : Hid (∀ i, i < n → (R i).small) := hsm
  clear hsm
  go_enter Try.func22, Try.ntmps22
  go_wp2_with fail
  go_loopw [5] (fun i wr => ∃ (k : Nat), k ≤ n ∧ i = .int .i64 k ∧ Below w.heap.size w wr) (fun i _ => n - (intOf i).toNat)
  case atStart => exact ⟨0, Nat.zero_le _, rfl, Below.refl _ _⟩
  case round =>
    obtain ⟨k, hk, rfl, hbel⟩ := hrel
    by_cases hlt : k < n
    · obtain ⟨b, off, rfl, _, hb, hc⟩ := (hR.mono (Nat.le_refl _) hbel.drew (Nat.le_refl _)) (by omega)
      obtain ⟨b', off', rfl, _, hb', hc'⟩ := (hR'.mono (Nat.le_refl _) hbel.drew (Nat.le_refl _)) (by omega)
      obtain ⟨sa, sc, la, lc, xa, xc, qa, qc, oa, oc, fa, fc, c0, c1, c2, c3, c4, c5, c6, c7, g⟩ := hc k hlt
      obtain ⟨sa', sc', la', lc', xa', xc', qa', qc', oa', oc', fa', fc', d0, d1, d2, d3, d4, d5, d6, d7, g'⟩ := hc' k hlt
      have hlt' : (k : Int) < (n : Int) := by omega
      have hk0 : (0 : Int) ≤ (k : Int) := by omega
      have G : Hid (RtIn 0 wr.drew (R k) sa la xa qa oa fa) := g
      have G' : Hid (RtIn 0 wr.drew (R k) sa' la' xa' qa' oa' fa') := g'
      clear hc hc' g g'
      have hsk := HS.out k hlt
      have c00 : wr.cell? _ = _ := c0
      have c10 : wr.cell? _ = _ := c1
      have c20 : wr.cell? _ = _ := c2
      have c30 : wr.cell? _ = _ := c3
      have c40 : wr.cell? _ = _ := c4
      have c50 : wr.cell? _ = _ := c5
      have c60 : wr.cell? _ = _ := c6
      have c70 : wr.cell? _ = _ := c7
      have d00 : wr.cell? _ = _ := d0
      have d10 : wr.cell? _ = _ := d1
      have d20 : wr.cell? _ = _ := d2
      have d30 : wr.cell? _ = _ := d3
      have d40 : wr.cell? _ = _ := d4
      have d50 : wr.cell? _ = _ := d5
      have d60 : wr.cell? _ = _ := d6
      have d70 : wr.cell? _ = _ := d7
      clear c0 c1 c2 c3 c4 c5 c6 c7 d0 d1 d2 d3 d4 d5 d6 d7
      have HSK : Hid ((R k).small) := hsk
      clear hsk
      go_wp2_with fail
      go_region_with (go_at_call 11; refine (eqRoute48 (R k) sa la xa qa oa fa sa' la' xa' qa' oa' fa' sc lc xc qc oc fc sc' lc' xc' qc' oc' fc' _ HSK.out G.out G'.out).mono ?_; rintro e w1 ⟨rfl, hb1⟩)
      all_goals
        go_wp2_with fail
        go_roundw
        case rel => exact ⟨k + 1, by omega, by go_num, hbel.drew.trans (hb1.mono hbel.drew.size)⟩
        case measure => simp [intOf]; omega
    · go_wp2
      go_ret
      exact ⟨rfl, hbel⟩

end Go.Proofs.Ytpghgdnhfhdgmaa
