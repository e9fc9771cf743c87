import Derived.Test.YtoennemahlakeaaGreatLa
namespace Go.Proofs.YtoennemahlakeaaGreat
open Go.RowKit

theorem boxN {w wr : World} {pa ja : Option Addr} {n pc m jc : Nat} (h : Below (w.heap.size + 1) (w.alloc (.cells #[.slice pa n pc, .slice ja m jc] 38)) wr) :
    wr.cell? ⟨w.heap.size, 0, none⟩ = some (.slice pa n pc) ∧ wr.cell? ⟨w.heap.size, 1, none⟩ = some (.slice ja m jc) ∧ w.heap.size < wr.heap.size ∧ Below w.heap.size w wr := by
  refine ⟨?_, ?_, ?_, (bel1 w _).trans (h.mono (by simp))⟩
  · rw [h.cell (p := ⟨w.heap.size, 0, none⟩) (by simp)]
    simp
  · rw [h.cell (p := ⟨w.heap.size, 1, none⟩) (by simp)]
    simp
  · have := h.size
    simp at this
    omega
theorem l22ok26 (pa : Option Addr) (n pc : Nat) (P : Nat → Pc) (ja : Option Addr) (m jc : Nat) (J : Nat → Jt) (w : World) (hn : n ≤ 1048576) (hm : m ≤ 1048576) (hP : PsAt 0 w pa n P) (hJ : JsAt 0 w ja m J) (hps : ∀ i, i < n → (P i).nm.size ≤ maxLen) (hjs : ∀ i, i < m → (J i).ne ≤ 1048576 ∧ (J i).nm.size ≤ maxLen) :
    Calls Tryz.prog 47 #[.agg #[.slice pa n pc, .slice ja m jc]] w fun e w' => e = .returned (.bool (decide ((netF n P m J).1 = 0))) ∧ Below w.heap.size w w' := by
  have Hps : Hid (∀ i, i < n → (P i).nm.size ≤ maxLen) := hps
  have Hjs : Hid (∀ i, i < m → (J i).ne ≤ 1048576 ∧ (J i).nm.size ≤ maxLen) := hjs
  clear hps hjs
  go_enter Tryz.func47, Tryz.ntmps47
  go_wp2_with fail
  refine (spec6 pa n pc P ja m jc J _ hn hm (hP.mono (Nat.le_refl _) (bel1 w _) (Nat.le_refl _)) (hJ.mono (Nat.le_refl _) (bel1 w _) (Nat.le_refl _)) Hps.out Hjs.out).mono ?_
  rintro e w1 ⟨rfl, hb1⟩
  have B1 := (bel1 w (.cells #[.slice pa n pc, .slice ja m jc] 38)).trans (hb1.mono (by simp))
  clear hb1
  go_wp2
  go_ret
  exact ⟨rfl, B1.alloc B1.size _⟩

end Go.Proofs.YtoennemahlakeaaGreat
