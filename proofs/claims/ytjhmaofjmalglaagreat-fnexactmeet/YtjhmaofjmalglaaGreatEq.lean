import Derived.Test.YtjhmaofjmalglaaGreatLeaf
import Derived.Deep.RegionWith
namespace Go.Proofs.YtjhmaofjmalglaaGreat
open Go.RowKit

set_option maxHeartbeats 1000000 in
theorem eqPieceS28 (a a' : Option Addr) (n cap cap' : Nat) (P : Nat → Pc) (w : World) (hn : n ≤ 1048576) (hP : PsAt 0 w a n P) (hP' : PsAt 0 w a' n P) :
    Calls Tryz.prog 49 #[.slice a n cap, .slice a' n cap'] w fun e w' => e = .returned (.bool true) ∧ Below w.heap.size w w' := by
  go_enter Tryz.func49, Tryz.ntmps49
  go_wp2_with fail
  go_loopw [5] (fun i wr => ∃ (k : Nat), k ≤ n ∧ i = .int .i64 k ∧ Below w.heap.size w wr) (fun i _ => n - (intOf i).toNat)
  case atStart => exact ⟨0, Nat.zero_le _, rfl, Below.refl _ _⟩
  case round =>
    obtain ⟨k, hk, rfl, hbel⟩ := hrel
    by_cases hlt : k < n
    · obtain ⟨b, off, rfl, _, hb, hc⟩ := (hP.mono (Nat.le_refl _) hbel (Nat.le_refl _)) (by omega)
      obtain ⟨c0, c1, c2, c3⟩ := hc k hlt
      obtain ⟨b', off', rfl, _, hb', hc'⟩ := (hP'.mono (Nat.le_refl _) hbel (Nat.le_refl _)) (by omega)
      obtain ⟨c0', c1', c2', c3'⟩ := hc' k hlt
      have hlt' : (k : Int) < (n : Int) := by omega
      have hk0 : (0 : Int) ≤ (k : Int) := by omega
      clear hc hc'
      go_wp2_with fail
      go_region_with (go_at_call 93; refine (eqPiece46 (P k) _).mono ?_; rintro e w1 ⟨rfl, hb1⟩)
      all_goals
        go_wp2_with fail
        go_roundw
        case rel => exact ⟨k + 1, by omega, by go_num, hbel.drew.trans (hb1.mono hbel.drew.size)⟩
        case measure => simp [intOf]; omega
    · go_wp2
      go_ret
      exact ⟨rfl, hbel⟩

set_option maxHeartbeats 1000000 in
theorem eqEndS51 (a a' : Option Addr) (n cap cap' : Nat) (E : Nat → En) (w : World) (hn : n ≤ 1048576) (hE : EsAt 0 w a n E) (hE' : EsAt 0 w a' n E) :
    Calls Tryz.prog 129 #[.slice a n cap, .slice a' n cap'] w fun e w' => e = .returned (.bool true) ∧ Below w.heap.size w w' := by
  go_enter Tryz.func129, Tryz.ntmps129
  go_wp2_with fail
  go_loopw [5] (fun i wr => ∃ (k : Nat), k ≤ n ∧ i = .int .i64 k ∧ Below w.heap.size w wr) (fun i _ => n - (intOf i).toNat)
  case atStart => exact ⟨0, Nat.zero_le _, rfl, Below.refl _ _⟩
  case round =>
    obtain ⟨k, hk, rfl, hbel⟩ := hrel
    by_cases hlt : k < n
    · obtain ⟨b, off, rfl, _, hb, hc⟩ := (hE.mono (Nat.le_refl _) hbel (Nat.le_refl _)) (by omega)
      obtain ⟨c0, c1⟩ := hc k hlt
      obtain ⟨b', off', rfl, _, hb', hc'⟩ := (hE'.mono (Nat.le_refl _) hbel (Nat.le_refl _)) (by omega)
      obtain ⟨c0', c1'⟩ := hc' k hlt
      have hlt' : (k : Int) < (n : Int) := by omega
      have hk0 : (0 : Int) ≤ (k : Int) := by omega
      clear hc hc'
      go_wp2_with fail
      go_region_with (go_at_call 146; refine (eqEnd53 (E k).pc (E k).sd _).mono ?_; rintro e w1 ⟨rfl, hb1⟩)
      all_goals
        go_wp2_with fail
        go_roundw
        case rel => exact ⟨k + 1, by omega, by go_num, hbel.drew.trans (hb1.mono hbel.drew.size)⟩
        case measure => simp [intOf]; omega
    · go_wp2
      go_ret
      exact ⟨rfl, hbel⟩

set_option maxHeartbeats 1000000 in
theorem eqJoint47 (j : Jt) (a a' : Option Addr) (c c' : Nat) (w : World) (hn : j.ne ≤ 1048576) (hE : EsAt 0 w a j.ne j.E) (hE' : EsAt 0 w a' j.ne j.E) :
    Calls Tryz.prog 94 #[.agg #[.int .i64 j.kd, .string j.nm, .slice a j.ne c], .agg #[.int .i64 j.kd, .string j.nm, .slice a' j.ne c']] w fun e w' => e = .returned (.bool true) ∧ Below w.heap.size w w' := by
  go_enter Tryz.func94, Tryz.ntmps94
  go_wp2_with fail
  refine (eqEndS51 a a' j.ne c c' j.E _ hn (hE.mono (Nat.le_refl _) (bel2 w _ _) (Nat.le_refl _)) (hE'.mono (Nat.le_refl _) (bel2 w _ _) (Nat.le_refl _))).mono ?_
  rintro e w1 ⟨rfl, hb1⟩
  go_wp2
  go_ret
  exact ⟨rfl, (bel2 w _ _).trans (hb1.mono (by simp; omega))⟩

set_option maxHeartbeats 1000000 in
theorem eqJointS29 (a a' : Option Addr) (n cap cap' : Nat) (J : Nat → Jt) (w : World) (hn : n ≤ 1048576) (hJ : JsAt 0 w a n J) (hJ' : JsAt 0 w a' n J) (hne : ∀ i, i < n → (J i).ne ≤ 1048576) :
    Calls Tryz.prog 50 #[.slice a n cap, .slice a' n cap'] w fun e w' => e = .returned (.bool true) ∧ Below w.heap.size w w' := by
  have Hne : Hid (∀ i, i < n → (J i).ne ≤ 1048576) := hne
  clear hne
  go_enter Tryz.func50, Tryz.ntmps50
  go_wp2_with fail
  go_loopw [5] (fun i wr => ∃ (k : Nat), k ≤ n ∧ i = .int .i64 k ∧ Below w.heap.size w wr) (fun i _ => n - (intOf i).toNat)
  case atStart => exact ⟨0, Nat.zero_le _, rfl, Below.refl _ _⟩
  case round =>
    obtain ⟨k, hk, rfl, hbel⟩ := hrel
    by_cases hlt : k < n
    · obtain ⟨b, off, rfl, _, hb, hc⟩ := (hJ.mono (Nat.le_refl _) hbel.drew (Nat.le_refl _)) (by omega)
      obtain ⟨ea, ec, c0, c1, c2, hE⟩ := hc k hlt
      obtain ⟨b', off', rfl, _, hb', hc'⟩ := (hJ'.mono (Nat.le_refl _) hbel.drew (Nat.le_refl _)) (by omega)
      obtain ⟨ea', ec', c0', c1', c2', hE'⟩ := hc' k hlt
      have hlt' : (k : Int) < (n : Int) := by omega
      have hk0 : (0 : Int) ≤ (k : Int) := by omega
      have hnk := Hne.out k hlt
      clear hc hc'
      have c00 : wr.cell? _ = _ := c0
      have c10 : wr.cell? _ = _ := c1
      have c20 : wr.cell? _ = _ := c2
      have c00' : wr.cell? _ = _ := c0'
      have c10' : wr.cell? _ = _ := c1'
      have c20' : wr.cell? _ = _ := c2'
      clear c0 c1 c2 c0' c1' c2'
      go_wp2_with fail
      go_region_with (go_at_call 94; refine (eqJoint47 (J k) ea ea' ec ec' _ hnk hE hE').mono ?_; rintro e w1 ⟨rfl, hb1⟩)
      all_goals
        go_wp2_with fail
        go_roundw
        case rel => exact ⟨k + 1, by omega, by go_num, hbel.drew.trans (hb1.mono hbel.drew.size)⟩
        case measure => simp [intOf]; omega
    · go_wp2
      go_ret
      exact ⟨rfl, hbel⟩

set_option maxHeartbeats 1000000 in
theorem eqNet10 (pa pa' : Option Addr) (n pc pc' : Nat) (P : Nat → Pc) (ja ja' : Option Addr) (m jc jc' : Nat) (J : Nat → Jt) (w : World) (hn : n ≤ 1048576) (hm : m ≤ 1048576)
    (hP : PsAt 0 w pa n P) (hP' : PsAt 0 w pa' n P) (hJ : JsAt 0 w ja m J) (hJ' : JsAt 0 w ja' m J) (hne : ∀ i, i < m → (J i).ne ≤ 1048576) :
    Calls Tryz.prog 13 #[.agg #[.slice pa n pc, .slice ja m jc], .agg #[.slice pa' n pc', .slice ja' m jc']] w fun e w' => e = .returned (.bool true) ∧ Below w.heap.size w w' := by
  have Hne : Hid (∀ i, i < m → (J i).ne ≤ 1048576) := hne
  clear hne
  go_enter Tryz.func13, Tryz.ntmps13
  go_wp2_with fail
  refine (eqPieceS28 pa pa' n pc pc' P _ hn (hP.mono (Nat.le_refl _) (bel2 w _ _) (Nat.le_refl _)) (hP'.mono (Nat.le_refl _) (bel2 w _ _) (Nat.le_refl _))).mono ?_
  rintro e w1 ⟨rfl, hb1⟩
  obtain ⟨hc, hf⟩ := bcell hb1
  have hB : Below w.heap.size w w1 := (bel2 w _ _).trans (hb1.mono (by simp; omega))
  go_wp2_with fail
  refine (eqJointS29 ja ja' m jc jc' J _ hm (hJ.mono (Nat.le_refl _) hB (Nat.le_refl _)) (hJ'.mono (Nat.le_refl _) hB (Nat.le_refl _)) Hne.out).mono ?_
  rintro e w2 ⟨rfl, hb2⟩
  go_wp2
  go_ret
  exact ⟨rfl, hB.trans (hb2.mono hB.size)⟩

end Go.Proofs.YtjhmaofjmalglaaGreat
