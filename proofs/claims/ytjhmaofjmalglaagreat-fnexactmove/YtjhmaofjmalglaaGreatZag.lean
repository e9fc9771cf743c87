import Derived.Test.YtjhmaofjmalglaaGreatZaa
import Derived.Deep.RegionWith
namespace Go.Proofs.YtjhmaofjmalglaaGreat
open Go.RowKit
set_option maxHeartbeats 1000000 in
theorem eqPieceS28 (a a' : Option Addr) (n cap cap' : Nat) (P : Nat → Pc) (w : World) (hn : n ≤ 1048576) (hP : PsAt 0 w a n P) (hP' : PsAt 0 w a' n P) :
  Calls Tryz.prog 49 #[.slice a n cap, .slice a' n cap'] w fun e w' => e = .returned (.bool true) ∧ Below w.heap.size w w' := by
 go_enter Tryz.func49, Tryz.ntmps49
 go_wp2_with fail
 go_loopw [5] (fun i wr => ∃ (k : Nat), k ≤ n ∧ i = .int .i64 k ∧ Below w.heap.size w wr) (fun i _ => n - (intOf i).toNat)
 case atStart => exact ⟨0, Nat.zero_le _, rfl, Below.refl _ _⟩
 case round =>
  obtain ⟨k, hk, rfl, hbel⟩ := hrel
  by_cases hlt : k < n
  ·
   obtain ⟨b, off, rfl, _, hb, hc⟩ := (hP.mono (Nat.le_refl _) hbel (Nat.le_refl _)) (by omega)
   obtain ⟨c0, c1, c2, c3⟩ := hc k hlt
   obtain ⟨b', off', rfl, _, hb', hc'⟩ := (hP'.mono (Nat.le_refl _) hbel (Nat.le_refl _)) (by omega)
   obtain ⟨c0', c1', c2', c3'⟩ := hc' k hlt
   have hlt' : (k : Int) < (n : Int) := by omega
   have hk0 : (0 : Int) ≤ (k : Int) := by omega
   clear hc hc'
   go_wp2_with fail
   go_region_with (go_at_call 93; refine (eqPiece46 (P k) _).mono ?_; rintro e w1 ⟨rfl, hb1⟩)
   all_goals
    go_wp2_with fail
    go_roundw
    case rel => exact ⟨k + 1, by omega, by go_num, hbel.drew.trans (hb1.mono hbel.drew.size)⟩
    case measure => simp [intOf]; omega
  ·
   go_wp2
   go_ret
   exact ⟨rfl, hbel⟩
set_option maxHeartbeats 1000000 in
theorem eqEndS51 (a a' : Option Addr) (n cap cap' : Nat) (E : Nat → En) (w : World) (hn : n ≤ 1048576) (hE : EsAt 0 w a n E) (hE' : EsAt 0 w a' n E) :
  Calls Tryz.prog 129 #[.slice a n cap, .slice a' n cap'] w fun e w' => e = .returned (.bool true) ∧ Below w.heap.size w w' := by
 go_enter Tryz.func129, Tryz.ntmps129
 go_wp2_with fail
 go_loopw [5] (fun i wr => ∃ (k : Nat), k ≤ n ∧ i = .int .i64 k ∧ Below w.heap.size w wr) (fun i _ => n - (intOf i).toNat)
 case atStart => exact ⟨0, Nat.zero_le _, rfl, Below.refl _ _⟩
 case round =>
  obtain ⟨k, hk, rfl, hbel⟩ := hrel
  by_cases hlt : k < n
  ·
   obtain ⟨b, off, rfl, _, hb, hc⟩ := (hE.mono (Nat.le_refl _) hbel (Nat.le_refl _)) (by omega)
   obtain ⟨c0, c1⟩ := hc k hlt
   obtain ⟨b', off', rfl, _, hb', hc'⟩ := (hE'.mono (Nat.le_refl _) hbel (Nat.le_refl _)) (by omega)
   obtain ⟨c0', c1'⟩ := hc' k hlt
   have hlt' : (k : Int) < (n : Int) := by omega
   have hk0 : (0 : Int) ≤ (k : Int) := by omega
   clear hc hc'
   go_wp2_with fail
   go_region_with (go_at_call 146; refine (eqEnd53 (E k).pc (E k).sd _).mono ?_; rintro e w1 ⟨rfl, hb1⟩)
   all_goals
    go_wp2_with fail
    go_roundw
    case rel => exact ⟨k + 1, by omega, by go_num, hbel.drew.trans (hb1.mono hbel.drew.size)⟩
    case measure => simp [intOf]; omega
  ·
   go_wp2
   go_ret
   exact ⟨rfl, hbel⟩
set_option maxHeartbeats 1000000 in
theorem eqJoint47 (j : Jt) (a a' : Option Addr) (c c' : Nat) (w : World) (hn : j.ne ≤ 1048576) (hE : EsAt 0 w a j.ne j.E) (hE' : EsAt 0 w a' j.ne j.E) :
  Calls Tryz.prog 94 #[.agg #[.int .i64 j.kd, .string j.nm, .slice a j.ne c], .agg #[.int .i64 j.kd, .string j.nm, .slice a' j.ne c']] w fun e w' => e = .returned (.bool true) ∧ Below w.heap.size w w' := by
 go_enter Tryz.func94, Tryz.ntmps94
 go_wp2_with fail
 refine (eqEndS51 a a' j.ne c c' j.E _ hn (hE.mono (Nat.le_refl _) (bel2 w _ _) (Nat.le_refl _)) (hE'.mono (Nat.le_refl _) (bel2 w _ _) (Nat.le_refl _))).mono ?_
 rintro e w1 ⟨rfl, hb1⟩
 go_wp2
 go_ret
 exact ⟨rfl, (bel2 w _ _).trans (hb1.mono (by simp; omega))⟩
set_option maxHeartbeats 1000000 in
theorem eqJointS29 (a a' : Option Addr) (n cap cap' : Nat) (J : Nat → Jt) (w : World) (hn : n ≤ 1048576) (hJ : JsAt 0 w a n J) (hJ' : JsAt 0 w a' n J) (hne : ∀ i, i < n → (J i).ne ≤ 1048576) :
  Calls Tryz.prog 50 #[.slice a n cap, .slice a' n cap'] w fun e w' => e = .returned (.bool true) ∧ Below w.heap.size w w' := by
 have Hne : Hid (∀ i, i < n → (J i).ne ≤ 1048576) := hne
 clear hne
 go_enter Tryz.func50, Tryz.ntmps50
 go_wp2_with fail
 go_loopw [5] (fun i wr => ∃ (k : Nat), k ≤ n ∧ i = .int .i64 k ∧ Below w.heap.size w wr) (fun i _ => n - (intOf i).toNat)
 case atStart => exact ⟨0, Nat.zero_le _, rfl, Below.refl _ _⟩
 case round =>
  obtain ⟨k, hk, rfl, hbel⟩ := hrel
  by_cases hlt : k < n
  ·
   obtain ⟨b, off, rfl, _, hb, hc⟩ := (hJ.mono (Nat.le_refl _) hbel.drew (Nat.le_refl _)) (by omega)
   obtain ⟨ea, ec, c0, c1, c2, hE⟩ := hc k hlt
   obtain ⟨b', off', rfl, _, hb', hc'⟩ := (hJ'.mono (Nat.le_refl _) hbel.drew (Nat.le_refl _)) (by omega)
   obtain ⟨ea', ec', c0', c1', c2', hE'⟩ := hc' k hlt
   have hlt' : (k : Int) < (n : Int) := by omega
   have hk0 : (0 : Int) ≤ (k : Int) := by omega
   have hnk := Hne.out k hlt
   clear hc hc'
   have c00 : wr.cell? _ = _ := c0
   have c10 : wr.cell? _ = _ := c1
   have c20 : wr.cell? _ = _ := c2
   have c00' : wr.cell? _ = _ := c0'
   have c10' : wr.cell? _ = _ := c1'
   have c20' : wr.cell? _ = _ := c2'
   clear c0 c1 c2 c0' c1' c2'
   go_wp2_with fail
   go_region_with (go_at_call 94; refine (eqJoint47 (J k) ea ea' ec ec' _ hnk hE hE').mono ?_; rintro e w1 ⟨rfl, hb1⟩)
   all_goals
    go_wp2_with fail
    go_roundw
    case rel => exact ⟨k + 1, by omega, by go_num, hbel.drew.trans (hb1.mono hbel.drew.size)⟩
    case measure => simp [intOf]; omega
  ·
   go_wp2
   go_ret
   exact ⟨rfl, hbel⟩
set_option maxHeartbeats 1000000 in
theorem eqNet10 (pa pa' : Option Addr) (n pc pc' : Nat) (P : Nat → Pc) (ja ja' : Option Addr) (m jc jc' : Nat) (J : Nat → Jt) (w : World) (hn : n ≤ 1048576) (hm : m ≤ 1048576)
  (hP : PsAt 0 w pa n P) (hP' : PsAt 0 w pa' n P) (hJ : JsAt 0 w ja m J) (hJ' : JsAt 0 w ja' m J) (hne : ∀ i, i < m → (J i).ne ≤ 1048576) :
  Calls Tryz.prog 13 #[.agg #[.slice pa n pc, .slice ja m jc], .agg #[.slice pa' n pc', .slice ja' m jc']] w fun e w' => e = .returned (.bool true) ∧ Below w.heap.size w w' := by
 have Hne : Hid (∀ i, i < m → (J i).ne ≤ 1048576) := hne
 clear hne
 go_enter Tryz.func13, Tryz.ntmps13
 go_wp2_with fail
 refine (eqPieceS28 pa pa' n pc pc' P _ hn (hP.mono (Nat.le_refl _) (bel2 w _ _) (Nat.le_refl _)) (hP'.mono (Nat.le_refl _) (bel2 w _ _) (Nat.le_refl _))).mono ?_
 rintro e w1 ⟨rfl, hb1⟩
 obtain ⟨hc, hf⟩ := bcell hb1
 have hB : Below w.heap.size w w1 := (bel2 w _ _).trans (hb1.mono (by simp; omega))
 go_wp2_with fail
 refine (eqJointS29 ja ja' m jc jc' J _ hm (hJ.mono (Nat.le_refl _) hB (Nat.le_refl _)) (hJ'.mono (Nat.le_refl _) hB (Nat.le_refl _)) Hne.out).mono ?_
 rintro e w2 ⟨rfl, hb2⟩
 go_wp2
 go_ret
 exact ⟨rfl, hB.trans (hb2.mono hB.size)⟩
end Go.Proofs.YtjhmaofjmalglaaGreat
namespace Go.Proofs.YtjhmaofjmalglaaGreat
open Go.RowKit
def namedB (k : Int) : Bool := decide (k = 3 ∨ k = 4)
def kindV (k : Int) : Value := if k = 1 then .iface 183 (.agg #[]) else if k = 2 then .iface 184 (.agg #[]) else if k = 3 then .iface 182 (.agg #[]) else if k = 4 then .iface 185 (.agg #[]) else .nilIface
set_option maxHeartbeats 1000000 in
theorem kindOf44 (k : Int) (w : World) :
  Calls Tryz.prog 85 #[.int .i64 k] w fun e w' => e = .returned (kindV k) ∧ w' = w := by
 have h5 : (k == 1) = true ∨ ((k == 1) = false ∧ (k == 2) = true) ∨ ((k == 1) = false ∧ (k == 2) = false ∧ (k == 3) = true) ∨ ((k == 1) = false ∧ (k == 2) = false ∧ (k == 3) = false ∧ (k == 4) = true) ∨ ((k == 1) = false ∧ (k == 2) = false ∧ (k == 3) = false ∧ (k == 4) = false) := by
  simp only [beq_iff_eq, beq_eq_false_iff_ne]; omega
 rcases h5 with h | ⟨h1, h2⟩ | ⟨h1, h2, h3⟩ | ⟨h1, h2, h3, h4⟩ | ⟨h1, h2, h3, h4⟩
 ·
  go_enter Tryz.func85, Tryz.ntmps85
  go_wp2
  go_ret
  exact ⟨by simp only [beq_iff_eq] at h; simp [kindV, h], rfl⟩
 ·
  go_enter Tryz.func85, Tryz.ntmps85
  go_wp2
  go_ret
  exact ⟨by simp only [beq_iff_eq] at h2; simp [kindV, h2], rfl⟩
 ·
  go_enter Tryz.func85, Tryz.ntmps85
  go_wp2
  go_ret
  exact ⟨by simp only [beq_iff_eq] at h3; simp [kindV, h3], rfl⟩
 ·
  go_enter Tryz.func85, Tryz.ntmps85
  go_wp2
  go_ret
  exact ⟨by simp only [beq_iff_eq] at h4; simp [kindV, h4], rfl⟩
 ·
  go_enter Tryz.func85, Tryz.ntmps85
  go_wp2
  go_ret
  exact ⟨by simp only [beq_eq_false_iff_ne, ne_eq] at h1 h2 h3 h4; simp [kindV, h1, h2, h3, h4], rfl⟩
theorem ta97_99 (w : World) : (Instr.typeAssert (.iface 183 (.agg #[])) 141 182 true).run Tryz.prog w = .ok (.tuple #[.agg #[], .bool false]) w := by kernel_rfl
theorem ta97_100 (w : World) : (Instr.typeAssert (.iface 183 (.agg #[])) 141 185 true).run Tryz.prog w = .ok (.tuple #[.agg #[], .bool false]) w := by kernel_rfl
theorem ta98_99 (w : World) : (Instr.typeAssert (.iface 184 (.agg #[])) 141 182 true).run Tryz.prog w = .ok (.tuple #[.agg #[], .bool false]) w := by kernel_rfl
theorem ta98_100 (w : World) : (Instr.typeAssert (.iface 184 (.agg #[])) 141 185 true).run Tryz.prog w = .ok (.tuple #[.agg #[], .bool false]) w := by kernel_rfl
theorem ta99_99 (w : World) : (Instr.typeAssert (.iface 182 (.agg #[])) 141 182 true).run Tryz.prog w = .ok (.tuple #[.agg #[], .bool true]) w := by kernel_rfl
theorem ta99_100 (w : World) : (Instr.typeAssert (.iface 182 (.agg #[])) 141 185 true).run Tryz.prog w = .ok (.tuple #[.agg #[], .bool false]) w := by kernel_rfl
theorem ta100_99 (w : World) : (Instr.typeAssert (.iface 185 (.agg #[])) 141 182 true).run Tryz.prog w = .ok (.tuple #[.agg #[], .bool false]) w := by kernel_rfl
theorem ta100_100 (w : World) : (Instr.typeAssert (.iface 185 (.agg #[])) 141 185 true).run Tryz.prog w = .ok (.tuple #[.agg #[], .bool true]) w := by kernel_rfl
theorem tanil_99 (w : World) : (Instr.typeAssert .nilIface 141 182 true).run Tryz.prog w = .ok (.tuple #[.agg #[], .bool false]) w := by kernel_rfl
theorem tanil_100 (w : World) : (Instr.typeAssert .nilIface 141 185 true).run Tryz.prog w = .ok (.tuple #[.agg #[], .bool false]) w := by kernel_rfl
set_option maxRecDepth 100000 in
set_option maxHeartbeats 1000000 in
theorem hasName45 (k : Int) (w : World) :
  Calls Tryz.prog 144 #[kindV k] w fun e w' => e = .returned (.bool (namedB k)) ∧ w' = w := by
 have h5 : k = 1 ∨ k = 2 ∨ k = 3 ∨ k = 4 ∨ (k ≠ 1 ∧ k ≠ 2 ∧ k ≠ 3 ∧ k ≠ 4) := by omega
 rcases h5 with rfl | rfl | rfl | rfl | ⟨h1, h2, h3, h4⟩
 ·
  rw [show kindV 1 = .iface 183 (.agg #[]) from rfl]
  have t1 := ta97_99
  have t2 := ta97_100
  go_enter Tryz.func144, Tryz.ntmps144
  go_wp2_with fail
  go_ret
  exact ⟨rfl, rfl⟩
 ·
  rw [show kindV 2 = .iface 184 (.agg #[]) from rfl]
  have t1 := ta98_99
  have t2 := ta98_100
  go_enter Tryz.func144, Tryz.ntmps144
  go_wp2_with fail
  go_ret
  exact ⟨rfl, rfl⟩
 ·
  rw [show kindV 3 = .iface 182 (.agg #[]) from rfl]
  have t1 := ta99_99
  have t2 := ta99_100
  go_enter Tryz.func144, Tryz.ntmps144
  go_wp2_with fail
  go_ret
  exact ⟨rfl, rfl⟩
 ·
  rw [show kindV 4 = .iface 185 (.agg #[]) from rfl]
  have t1 := ta100_99
  have t2 := ta100_100
  go_enter Tryz.func144, Tryz.ntmps144
  go_wp2_with fail
  go_ret
  exact ⟨rfl, rfl⟩
 ·
  rw [show kindV k = .nilIface by simp [kindV, h1, h2, h3, h4], show namedB k = false by simp [namedB, h3, h4]]
  have t1 := tanil_99
  have t2 := tanil_100
  clear h1 h2 h3 h4
  go_enter Tryz.func144, Tryz.ntmps144
  go_wp2_with fail
  go_ret
  exact ⟨rfl, rfl⟩
theorem ends69 (w : World) : Calls Tryz.prog 171 #[.agg #[]] w fun e w' => e = .returned (.int .i64 1) ∧ Below w.heap.size w w' := by
 go_enter Tryz.func171, Tryz.ntmps171
 go_wp2
 go_ret
 exact ⟨rfl, bel1 _ _⟩
theorem ends70 (w : World) : Calls Tryz.prog 173 #[.agg #[]] w fun e w' => e = .returned (.int .i64 2) ∧ Below w.heap.size w w' := by
 go_enter Tryz.func173, Tryz.ntmps173
 go_wp2
 go_ret
 exact ⟨rfl, bel1 _ _⟩
theorem ends71 (w : World) : Calls Tryz.prog 169 #[.agg #[]] w fun e w' => e = .returned (.int .i64 3) ∧ Below w.heap.size w w' := by
 go_enter Tryz.func169, Tryz.ntmps169
 go_wp2
 go_ret
 exact ⟨rfl, bel1 _ _⟩
theorem ends72 (w : World) : Calls Tryz.prog 175 #[.agg #[]] w fun e w' => e = .returned (.int .i64 4) ∧ Below w.heap.size w w' := by
 go_enter Tryz.func175, Tryz.ntmps175
 go_wp2
 go_ret
 exact ⟨rfl, bel1 _ _⟩
end Go.Proofs.YtjhmaofjmalglaaGreat
