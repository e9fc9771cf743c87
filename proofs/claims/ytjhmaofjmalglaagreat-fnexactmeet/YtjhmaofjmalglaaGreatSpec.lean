import Derived.Test.YtjhmaofjmalglaaGreatJoint
namespace Go.Proofs.YtjhmaofjmalglaaGreat
open Go.RowKit

/-- the world behind the entry: the net in a box, the result's cell -/
def X6 (w : World) (pa : Option Addr) (n pc : Nat) (ja : Option Addr) (m jc : Nat) : World := (w.alloc (.cells #[.slice pa n pc, .slice ja m jc] 40)).alloc (.cells #[.int .i64 0, .int .i64 0] 137)

structure Facts6 (w wr : World) (pa : Option Addr) (n pc : Nat) (ja : Option Addr) (m jc : Nat) : Prop where
  z0 : w.heap.size < wr.heap.size
  z1 : w.heap.size + 1 < wr.heap.size
  y0 : wr.cell? ⟨w.heap.size, 0, none⟩ = some (.slice pa n pc)
  y1 : wr.cell? ⟨w.heap.size, 1, none⟩ = some (.slice ja m jc)
  r0 : wr.cell? ⟨w.heap.size + 1, 0, none⟩ = some (.int .i64 0)
  r1 : wr.cell? ⟨w.heap.size + 1, 1, none⟩ = some (.int .i64 0)
  f0 : wr.frozen? ⟨w.heap.size + 1, 0, none⟩ = false
  f1 : wr.frozen? ⟨w.heap.size + 1, 1, none⟩ = false
  hB : Below w.heap.size w wr

theorem facts6 {w wr : World} {pa : Option Addr} {n pc : Nat} {ja : Option Addr} {m jc : Nat} (h : Below (w.heap.size + 1 + 1) (X6 w pa n pc ja m jc) wr) : Facts6 w wr pa n pc ja m jc := by
  unfold X6 at h
  have hs := h.size
  simp at hs
  have e0 : w.heap.size < w.heap.size + 1 + 1 := by omega
  have e1 : w.heap.size + 1 < w.heap.size + 1 + 1 := by omega
  refine ⟨by omega, by omega, ?_, ?_, ?_, ?_, ?_, ?_, (bel2 w _ _).trans (h.mono (by omega))⟩
  · rw [h.cell (by exact e0), World.cell?_alloc_past _ _ _ (by simp)]; simp
  · rw [h.cell (by exact e0), World.cell?_alloc_past _ _ _ (by simp)]; simp
  · rw [h.cell (by exact e1), World.cell?_alloc_at _ _ _ _ (by simp)]; rfl
  · rw [h.cell (by exact e1), World.cell?_alloc_at _ _ _ _ (by simp)]; rfl
  · rw [h.frozen (by exact e1)]; exact World.frozen?_alloc_at _ _ _ _ (by simp)
  · rw [h.frozen (by exact e1)]; exact World.frozen?_alloc_at _ _ _ _ (by simp)

theorem netF_1 {n : Nat} {P : Nat → Pc} {m : Nat} {J : Nat → Jt} (h : n = 0 ∨ 100 < n ∨ 120 < m) : netF n P m J = (1, 0) := by simp [netF, h]
theorem netF_2 {n : Nat} {P : Nat → Pc} {m : Nat} {J : Nat → Jt} (h : ¬ (n = 0 ∨ 100 < n ∨ 120 < m)) {k : Nat} (hk : k < n) (ha : ∀ q, q < k → pieceBad P q = false) (hp : pieceBad P k = true) : netF n P m J = (2, (k : Int)) := by
  rw [netF, if_neg h, stage2, firstB_hit ha hk hp]
theorem netF_s3 {n : Nat} {P : Nat → Pc} {m : Nat} {J : Nat → Jt} (h : ¬ (n = 0 ∨ 100 < n ∨ 120 < m)) (ha : ∀ q, q < n → pieceBad P q = false) : netF n P m J = stage3 n m J := by
  rw [netF, if_neg h, stage2, firstB_none ha]
theorem s3_hit {n m : Nat} {J : Nat → Jt} {k : Nat} (hk : k < m) (ha : ∀ q, q < k → endsBad n (J q) = false) (hp : endsBad n (J k) = true) : stage3 n m J = (3, (k : Int)) := by
  rw [stage3, firstB_hit (p := fun j => endsBad n (J j)) ha hk hp]
theorem s3_none {n m : Nat} {J : Nat → Jt} (ha : ∀ q, q < m → endsBad n (J q) = false) : stage3 n m J = stage4 n m J := by
  rw [stage3, firstB_none (p := fun j => endsBad n (J j)) ha]
theorem s4_hit {n m : Nat} {J : Nat → Jt} {k : Nat} (hk : k < m) (ha : ∀ q, q < k → nameBad J q = false) (hp : nameBad J k = true) : stage4 n m J = (4, (k : Int)) := by
  rw [stage4, firstB_hit ha hk hp]
theorem s4_none {n m : Nat} {J : Nat → Jt} (ha : ∀ q, q < m → nameBad J q = false) : stage4 n m J = stage5 n m J := by
  rw [stage4, firstB_none ha]
theorem s5_hit {n m : Nat} {J : Nat → Jt} {k : Nat} (hk : k < n) (ha : ∀ q, q < k → looseBad J m q = false) (hp : looseBad J m k = true) : stage5 n m J = (5, (k : Int)) := by
  rw [stage5, firstB_hit ha hk hp]
theorem s5_none {n m : Nat} {J : Nat → Jt} (ha : ∀ q, q < n → looseBad J m q = false) : stage5 n m J = (0, 0) := by
  rw [stage5, firstB_none ha]

/-- what is left when the way has been found: the result lies in its cell -/
theorem snoc_all {p : Nat → Bool} {k : Nat} {b : Bool} (h : ∀ q, q < k → p q = b) (hk : p k = b) : ∀ q, q < k + 1 → p q = b := by
  intro q hq
  by_cases e : q = k
  · subst e; exact hk
  · exact h q (by omega)

set_option maxHeartbeats 4000000 in
theorem spec6_1 (pa : Option Addr) (n pc : Nat) (P : Nat → Pc) (ja : Option Addr) (m jc : Nat) (J : Nat → Jt) (w : World) (hn : n ≤ 1048576) (hm : m ≤ 1048576) (h : n = 0 ∨ 100 < n ∨ 120 < m) :
    Calls Tryz.prog 119 #[.agg #[.slice pa n pc, .slice ja m jc]] w fun r w' => r = .returned (.agg #[.int .i64 (netF n P m J).1, .int .i64 (netF n P m J).2]) ∧ Below w.heap.size w w' := by
  rw [netF_1 h]
  by_cases h1 : n = 0
  · subst h1
    go_enter Tryz.func119, Tryz.ntmps119
    go_wp2_with fail
    exact bodyPost_ret (v := .agg #[.int .i64 1, .int .i64 0]) (by simp [results, Tryz.results119, go_sem]) rfl ⟨rfl, bel2 _ _ _⟩
  · have h1' : ((n : Int) == 0) = false := by simp; omega
    by_cases h2 : 100 < n
    · clear h h1
      go_enter Tryz.func119, Tryz.ntmps119
      go_wp2_with fail
      exact bodyPost_ret (v := .agg #[.int .i64 1, .int .i64 0]) (by simp [results, Tryz.results119, go_sem]) rfl ⟨rfl, bel2 _ _ _⟩
    · have h3 : 120 < m := by omega
      have h2' : decide (100 < (n : Int)) = false := by simp; omega
      clear h h1 h2
      go_enter Tryz.func119, Tryz.ntmps119
      go_wp2_with fail
      exact bodyPost_ret (v := .agg #[.int .i64 1, .int .i64 0]) (by simp [results, Tryz.results119, go_sem]) rfl ⟨rfl, bel2 _ _ _⟩

end Go.Proofs.YtjhmaofjmalglaaGreat
