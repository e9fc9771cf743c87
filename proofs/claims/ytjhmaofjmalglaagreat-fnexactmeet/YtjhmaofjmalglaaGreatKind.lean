import Derived.Test.YtjhmaofjmalglaaGreatLeaf
namespace Go.Proofs.YtjhmaofjmalglaaGreat
open Go.RowKit

def namedB (k : Int) : Bool := decide (k = 3 ∨ k = 4)

/-- the kind's value: nil, or one of four -/
def kindV (k : Int) : Value := if k = 1 then .iface 183 (.agg #[]) else if k = 2 then .iface 184 (.agg #[]) else if k = 3 then .iface 182 (.agg #[]) else if k = 4 then .iface 185 (.agg #[]) else .nilIface

set_option maxHeartbeats 1000000 in
theorem kindOf44 (k : Int) (w : World) :
    Calls Tryz.prog 85 #[.int .i64 k] w fun e w' => e = .returned (kindV k) ∧ w' = w := by
  have h5 : (k == 1) = true ∨ ((k == 1) = false ∧ (k == 2) = true) ∨ ((k == 1) = false ∧ (k == 2) = false ∧ (k == 3) = true) ∨ ((k == 1) = false ∧ (k == 2) = false ∧ (k == 3) = false ∧ (k == 4) = true) ∨ ((k == 1) = false ∧ (k == 2) = false ∧ (k == 3) = false ∧ (k == 4) = false) := by
    simp only [beq_iff_eq, beq_eq_false_iff_ne]; omega
  rcases h5 with h | ⟨h1, h2⟩ | ⟨h1, h2, h3⟩ | ⟨h1, h2, h3, h4⟩ | ⟨h1, h2, h3, h4⟩
  · go_enter Tryz.func85, Tryz.ntmps85
    go_wp2
    go_ret
    exact ⟨by simp only [beq_iff_eq] at h; simp [kindV, h], rfl⟩
  · go_enter Tryz.func85, Tryz.ntmps85
    go_wp2
    go_ret
    exact ⟨by simp only [beq_iff_eq] at h2; simp [kindV, h2], rfl⟩
  · go_enter Tryz.func85, Tryz.ntmps85
    go_wp2
    go_ret
    exact ⟨by simp only [beq_iff_eq] at h3; simp [kindV, h3], rfl⟩
  · go_enter Tryz.func85, Tryz.ntmps85
    go_wp2
    go_ret
    exact ⟨by simp only [beq_iff_eq] at h4; simp [kindV, h4], rfl⟩
  · go_enter Tryz.func85, Tryz.ntmps85
    go_wp2
    go_ret
    exact ⟨by simp only [beq_eq_false_iff_ne, ne_eq] at h1 h2 h3 h4; simp [kindV, h1, h2, h3, h4], rfl⟩

theorem ta97_99 (w : World) : (Instr.typeAssert (.iface 183 (.agg #[])) 141 182 true).run Tryz.prog w = .ok (.tuple #[.agg #[], .bool false]) w := by kernel_rfl
theorem ta97_100 (w : World) : (Instr.typeAssert (.iface 183 (.agg #[])) 141 185 true).run Tryz.prog w = .ok (.tuple #[.agg #[], .bool false]) w := by kernel_rfl
theorem ta98_99 (w : World) : (Instr.typeAssert (.iface 184 (.agg #[])) 141 182 true).run Tryz.prog w = .ok (.tuple #[.agg #[], .bool false]) w := by kernel_rfl
theorem ta98_100 (w : World) : (Instr.typeAssert (.iface 184 (.agg #[])) 141 185 true).run Tryz.prog w = .ok (.tuple #[.agg #[], .bool false]) w := by kernel_rfl
theorem ta99_99 (w : World) : (Instr.typeAssert (.iface 182 (.agg #[])) 141 182 true).run Tryz.prog w = .ok (.tuple #[.agg #[], .bool true]) w := by kernel_rfl
theorem ta99_100 (w : World) : (Instr.typeAssert (.iface 182 (.agg #[])) 141 185 true).run Tryz.prog w = .ok (.tuple #[.agg #[], .bool false]) w := by kernel_rfl
theorem ta100_99 (w : World) : (Instr.typeAssert (.iface 185 (.agg #[])) 141 182 true).run Tryz.prog w = .ok (.tuple #[.agg #[], .bool false]) w := by kernel_rfl
theorem ta100_100 (w : World) : (Instr.typeAssert (.iface 185 (.agg #[])) 141 185 true).run Tryz.prog w = .ok (.tuple #[.agg #[], .bool true]) w := by kernel_rfl
theorem tanil_99 (w : World) : (Instr.typeAssert .nilIface 141 182 true).run Tryz.prog w = .ok (.tuple #[.agg #[], .bool false]) w := by kernel_rfl
theorem tanil_100 (w : World) : (Instr.typeAssert .nilIface 141 185 true).run Tryz.prog w = .ok (.tuple #[.agg #[], .bool false]) w := by kernel_rfl

set_option maxRecDepth 100000 in
set_option maxHeartbeats 1000000 in
theorem hasName45 (k : Int) (w : World) :
    Calls Tryz.prog 144 #[kindV k] w fun e w' => e = .returned (.bool (namedB k)) ∧ w' = w := by
  have h5 : k = 1 ∨ k = 2 ∨ k = 3 ∨ k = 4 ∨ (k ≠ 1 ∧ k ≠ 2 ∧ k ≠ 3 ∧ k ≠ 4) := by omega
  rcases h5 with rfl | rfl | rfl | rfl | ⟨h1, h2, h3, h4⟩
  · rw [show kindV 1 = .iface 183 (.agg #[]) from rfl]
    have t1 := ta97_99
    have t2 := ta97_100
    go_enter Tryz.func144, Tryz.ntmps144
    go_wp2_with fail
    go_ret
    exact ⟨rfl, rfl⟩
  · rw [show kindV 2 = .iface 184 (.agg #[]) from rfl]
    have t1 := ta98_99
    have t2 := ta98_100
    go_enter Tryz.func144, Tryz.ntmps144
    go_wp2_with fail
    go_ret
    exact ⟨rfl, rfl⟩
  · rw [show kindV 3 = .iface 182 (.agg #[]) from rfl]
    have t1 := ta99_99
    have t2 := ta99_100
    go_enter Tryz.func144, Tryz.ntmps144
    go_wp2_with fail
    go_ret
    exact ⟨rfl, rfl⟩
  · rw [show kindV 4 = .iface 185 (.agg #[]) from rfl]
    have t1 := ta100_99
    have t2 := ta100_100
    go_enter Tryz.func144, Tryz.ntmps144
    go_wp2_with fail
    go_ret
    exact ⟨rfl, rfl⟩
  · rw [show kindV k = .nilIface by simp [kindV, h1, h2, h3, h4], show namedB k = false by simp [namedB, h3, h4]]
    have t1 := tanil_99
    have t2 := tanil_100
    clear h1 h2 h3 h4
    go_enter Tryz.func144, Tryz.ntmps144
    go_wp2_with fail
    go_ret
    exact ⟨rfl, rfl⟩

theorem ends69 (w : World) : Calls Tryz.prog 171 #[.agg #[]] w fun e w' => e = .returned (.int .i64 1) ∧ Below w.heap.size w w' := by
  go_enter Tryz.func171, Tryz.ntmps171
  go_wp2
  go_ret
  exact ⟨rfl, bel1 _ _⟩

theorem ends70 (w : World) : Calls Tryz.prog 173 #[.agg #[]] w fun e w' => e = .returned (.int .i64 2) ∧ Below w.heap.size w w' := by
  go_enter Tryz.func173, Tryz.ntmps173
  go_wp2
  go_ret
  exact ⟨rfl, bel1 _ _⟩

theorem ends71 (w : World) : Calls Tryz.prog 169 #[.agg #[]] w fun e w' => e = .returned (.int .i64 3) ∧ Below w.heap.size w w' := by
  go_enter Tryz.func169, Tryz.ntmps169
  go_wp2
  go_ret
  exact ⟨rfl, bel1 _ _⟩

theorem ends72 (w : World) : Calls Tryz.prog 175 #[.agg #[]] w fun e w' => e = .returned (.int .i64 4) ∧ Below w.heap.size w w' := by
  go_enter Tryz.func175, Tryz.ntmps175
  go_wp2
  go_ret
  exact ⟨rfl, bel1 _ _⟩

end Go.Proofs.YtjhmaofjmalglaaGreat
