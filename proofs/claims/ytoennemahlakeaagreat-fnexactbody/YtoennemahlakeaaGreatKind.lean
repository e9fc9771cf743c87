import Derived.Test.YtoennemahlakeaaGreatLeaf
namespace Go.Proofs.YtoennemahlakeaaGreat
open Go.RowKit

def namedB (k : Int) : Bool := decide (k = 3 ∨ k = 4)

/-- the kind's value: nil, or one of four -/
def kindV (k : Int) : Value := if k = 1 then .iface 171 (.agg #[]) else if k = 2 then .iface 172 (.agg #[]) else if k = 3 then .iface 173 (.agg #[]) else if k = 4 then .iface 174 (.agg #[]) else .nilIface

set_option maxHeartbeats 1000000 in
theorem kindOf44 (k : Int) (w : World) :
    Calls Tryz.prog 106 #[.int .i64 k] w fun e w' => e = .returned (kindV k) ∧ w' = w := by
  have h5 : (k == 1) = true ∨ ((k == 1) = false ∧ (k == 2) = true) ∨ ((k == 1) = false ∧ (k == 2) = false ∧ (k == 3) = true) ∨ ((k == 1) = false ∧ (k == 2) = false ∧ (k == 3) = false ∧ (k == 4) = true) ∨ ((k == 1) = false ∧ (k == 2) = false ∧ (k == 3) = false ∧ (k == 4) = false) := by
    simp only [beq_iff_eq, beq_eq_false_iff_ne]; omega
  rcases h5 with h | ⟨h1, h2⟩ | ⟨h1, h2, h3⟩ | ⟨h1, h2, h3, h4⟩ | ⟨h1, h2, h3, h4⟩
  · go_enter Tryz.func106, Tryz.ntmps106
    go_wp2
    go_ret
    exact ⟨by simp only [beq_iff_eq] at h; simp [kindV, h], rfl⟩
  · go_enter Tryz.func106, Tryz.ntmps106
    go_wp2
    go_ret
    exact ⟨by simp only [beq_iff_eq] at h2; simp [kindV, h2], rfl⟩
  · go_enter Tryz.func106, Tryz.ntmps106
    go_wp2
    go_ret
    exact ⟨by simp only [beq_iff_eq] at h3; simp [kindV, h3], rfl⟩
  · go_enter Tryz.func106, Tryz.ntmps106
    go_wp2
    go_ret
    exact ⟨by simp only [beq_iff_eq] at h4; simp [kindV, h4], rfl⟩
  · go_enter Tryz.func106, Tryz.ntmps106
    go_wp2
    go_ret
    exact ⟨by simp only [beq_eq_false_iff_ne, ne_eq] at h1 h2 h3 h4; simp [kindV, h1, h2, h3, h4], rfl⟩

theorem ta97_99 (w : World) : (Instr.typeAssert (.iface 171 (.agg #[])) 145 173 true).run Tryz.prog w = .ok (.tuple #[.agg #[], .bool false]) w := by kernel_rfl
theorem ta97_100 (w : World) : (Instr.typeAssert (.iface 171 (.agg #[])) 145 174 true).run Tryz.prog w = .ok (.tuple #[.agg #[], .bool false]) w := by kernel_rfl
theorem ta98_99 (w : World) : (Instr.typeAssert (.iface 172 (.agg #[])) 145 173 true).run Tryz.prog w = .ok (.tuple #[.agg #[], .bool false]) w := by kernel_rfl
theorem ta98_100 (w : World) : (Instr.typeAssert (.iface 172 (.agg #[])) 145 174 true).run Tryz.prog w = .ok (.tuple #[.agg #[], .bool false]) w := by kernel_rfl
theorem ta99_99 (w : World) : (Instr.typeAssert (.iface 173 (.agg #[])) 145 173 true).run Tryz.prog w = .ok (.tuple #[.agg #[], .bool true]) w := by kernel_rfl
theorem ta99_100 (w : World) : (Instr.typeAssert (.iface 173 (.agg #[])) 145 174 true).run Tryz.prog w = .ok (.tuple #[.agg #[], .bool false]) w := by kernel_rfl
theorem ta100_99 (w : World) : (Instr.typeAssert (.iface 174 (.agg #[])) 145 173 true).run Tryz.prog w = .ok (.tuple #[.agg #[], .bool false]) w := by kernel_rfl
theorem ta100_100 (w : World) : (Instr.typeAssert (.iface 174 (.agg #[])) 145 174 true).run Tryz.prog w = .ok (.tuple #[.agg #[], .bool true]) w := by kernel_rfl
theorem tanil_99 (w : World) : (Instr.typeAssert .nilIface 145 173 true).run Tryz.prog w = .ok (.tuple #[.agg #[], .bool false]) w := by kernel_rfl
theorem tanil_100 (w : World) : (Instr.typeAssert .nilIface 145 174 true).run Tryz.prog w = .ok (.tuple #[.agg #[], .bool false]) w := by kernel_rfl

set_option maxRecDepth 100000 in
set_option maxHeartbeats 1000000 in
theorem hasName45 (k : Int) (w : World) :
    Calls Tryz.prog 107 #[kindV k] w fun e w' => e = .returned (.bool (namedB k)) ∧ w' = w := by
  have h5 : k = 1 ∨ k = 2 ∨ k = 3 ∨ k = 4 ∨ (k ≠ 1 ∧ k ≠ 2 ∧ k ≠ 3 ∧ k ≠ 4) := by omega
  rcases h5 with rfl | rfl | rfl | rfl | ⟨h1, h2, h3, h4⟩
  · rw [show kindV 1 = .iface 171 (.agg #[]) from rfl]
    have t1 := ta97_99
    have t2 := ta97_100
    go_enter Tryz.func107, Tryz.ntmps107
    go_wp2_with fail
    go_ret
    exact ⟨rfl, rfl⟩
  · rw [show kindV 2 = .iface 172 (.agg #[]) from rfl]
    have t1 := ta98_99
    have t2 := ta98_100
    go_enter Tryz.func107, Tryz.ntmps107
    go_wp2_with fail
    go_ret
    exact ⟨rfl, rfl⟩
  · rw [show kindV 3 = .iface 173 (.agg #[]) from rfl]
    have t1 := ta99_99
    have t2 := ta99_100
    go_enter Tryz.func107, Tryz.ntmps107
    go_wp2_with fail
    go_ret
    exact ⟨rfl, rfl⟩
  · rw [show kindV 4 = .iface 174 (.agg #[]) from rfl]
    have t1 := ta100_99
    have t2 := ta100_100
    go_enter Tryz.func107, Tryz.ntmps107
    go_wp2_with fail
    go_ret
    exact ⟨rfl, rfl⟩
  · rw [show kindV k = .nilIface by simp [kindV, h1, h2, h3, h4], show namedB k = false by simp [namedB, h3, h4]]
    have t1 := tanil_99
    have t2 := tanil_100
    clear h1 h2 h3 h4
    go_enter Tryz.func107, Tryz.ntmps107
    go_wp2_with fail
    go_ret
    exact ⟨rfl, rfl⟩

theorem ends69 (w : World) : Calls Tryz.prog 131 #[.agg #[]] w fun e w' => e = .returned (.int .i64 1) ∧ Below w.heap.size w w' := by
  go_enter Tryz.func131, Tryz.ntmps131
  go_wp2
  go_ret
  exact ⟨rfl, bel1 _ _⟩

theorem ends70 (w : World) : Calls Tryz.prog 133 #[.agg #[]] w fun e w' => e = .returned (.int .i64 2) ∧ Below w.heap.size w w' := by
  go_enter Tryz.func133, Tryz.ntmps133
  go_wp2
  go_ret
  exact ⟨rfl, bel1 _ _⟩

theorem ends71 (w : World) : Calls Tryz.prog 135 #[.agg #[]] w fun e w' => e = .returned (.int .i64 3) ∧ Below w.heap.size w w' := by
  go_enter Tryz.func135, Tryz.ntmps135
  go_wp2
  go_ret
  exact ⟨rfl, bel1 _ _⟩

theorem ends72 (w : World) : Calls Tryz.prog 137 #[.agg #[]] w fun e w' => e = .returned (.int .i64 4) ∧ Below w.heap.size w w' := by
  go_enter Tryz.func137, Tryz.ntmps137
  go_wp2
  go_ret
  exact ⟨rfl, bel1 _ _⟩

end Go.Proofs.YtoennemahlakeaaGreat
