import Derived.Test.YtmcaohablpaknaaBg
namespace Go.Proofs.Ytmcaohablpaknaa
open Go.RowKit

theorem Box.new' (w : World) (T : TypeId) (vs : Array Value) {q : Nat} (hq : w.heap.size = q) : Box (w.alloc (.cells vs T)) q T vs := by
  subst hq
  exact Box.new w T vs
theorem StMk.drew {w : World} {sa da : Option Addr} {ns nd k : Nat} (h : StMk w sa da ns nd k) : StMk w.drew sa da ns nd k := ⟨h.s, h.d⟩
/-- what is marked reads as it was marked -/
def IntMk (w : World) (a : Option Addr) (n k : Nat) : Prop := 0 < n → ∃ g, a = some ⟨g, 0, none⟩ ∧ g < w.heap.size ∧ ∀ i, i < n → ∀ j, j < 1 → w.cell? ⟨g, 0 + i * 1 + j, none⟩ = some (mkFIntS k i j)
theorem IntMk.drew {w : World} {a : Option Addr} {n k : Nat} (h : IntMk w a n k) : IntMk w.drew a n k := h
theorem IntMk.mono {w w' : World} {a : Option Addr} {n k M : Nat} (h : IntMk w a n k) (hb : Below M w w') (hM : w.heap.size ≤ M) : IntMk w' a n k := by
  intro h0
  obtain ⟨g, h1, h2, h3⟩ := h h0
  exact ⟨g, h1, Nat.lt_of_lt_of_le h2 hb.size, fun i hi j hj => (hb.cell (p := ⟨g, _, none⟩) (by show g < M; omega)).trans (h3 i hi j hj)⟩

end Go.Proofs.Ytmcaohablpaknaa
