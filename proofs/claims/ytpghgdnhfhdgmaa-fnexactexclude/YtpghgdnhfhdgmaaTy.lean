import Derived.Test.YtpghgdnhfhdgmaaLs
namespace Go.Proofs.Ytpghgdnhfhdgmaa
open Go.RowKit

/-- the kinds of elements: a step, a lie, an int, a part, a flank, an end -/
theorem infoStep : (Try.prog.info? 97).map (fun i => (i.zero, i.size, i.bytes)) = some (some (.agg #[.int .i64 0, .int .i64 0]), 2, 16) := by kernel_rfl
theorem infoLie : (Try.prog.info? 62).map (fun i => (i.zero, i.size, i.bytes)) = some (some (.agg #[.int .i64 0, .int .i64 0]), 2, 16) := by kernel_rfl
theorem infoInt : (Try.prog.info? 3).map (fun i => (i.zero, i.size, i.bytes)) = some (some (.int .i64 0), 1, 8) := by kernel_rfl
theorem infoPart : (Try.prog.info? 103).map (fun i => (i.zero, i.size, i.bytes)) = some (some (.agg #[.int .i64 0, .int .i64 0, .int .i64 0]), 3, 24) := by kernel_rfl
theorem infoFlank : (Try.prog.info? 64).map (fun i => (i.zero, i.size, i.bytes)) = some (some (.agg #[.int .i64 0, .int .i64 0, .int .i64 0, .int .i64 0]), 4, 32) := by kernel_rfl

/-- a block of cells that nothing is frozen of -/
def Box (w : World) (b : Nat) (T : TypeId) (vs : Array Value) : Prop := w.heap[b]? = some (.cells vs T (0, 0))
theorem Box.lt {w : World} {b : Nat} {T : TypeId} {vs : Array Value} (h : Box w b T vs) : b < w.heap.size := (Array.getElem?_eq_some_iff.1 h).1
theorem Box.cell {w : World} {b : Nat} {T : TypeId} {vs : Array Value} (h : Box w b T vs) (j : Nat) : w.cell? ⟨b, j, none⟩ = vs[j]? := by
  have h' : w.heap[b]? = some (.cells vs T (0, 0)) := h
  simp [World.cell?, h']
theorem Box.free {w : World} {b : Nat} {T : TypeId} {vs : Array Value} (h : Box w b T vs) (j : Nat) : w.frozen? ⟨b, j, none⟩ = false := by
  have h' : w.heap[b]? = some (.cells vs T (0, 0)) := h
  simp [World.frozen?, h']
theorem Box.keep {w w' : World} {b : Nat} {T : TypeId} {vs : Array Value} (h : Box w b T vs) (hk : w'.heap[b]? = w.heap[b]?) : Box w' b T vs := by
  show w'.heap[b]? = _
  rw [hk]; exact h
theorem Box.alloc {w : World} {b : Nat} {T : TypeId} {vs : Array Value} (h : Box w b T vs) (o : Obj) : Box (w.alloc o) b T vs := h.keep (Below.heap_alloc w o b h.lt)
theorem Box.new (w : World) (T : TypeId) (vs : Array Value) : Box (w.alloc (.cells vs T)) w.heap.size T vs := heap_alloc_new w _
theorem Box.set {w : World} {b : Nat} {T : TypeId} {vs : Array Value} (h : Box w b T vs) (j : Nat) (v : Value) : Box (w.setCell ⟨b, j, none⟩ v) b T (vs.setIfInBounds j v) := by
  have h' : w.heap[b]? = some (.cells vs T (0, 0)) := h
  show (w.setCell ⟨b, j, none⟩ v).heap[b]? = _
  simp [World.setCell, Array.getElem?_modify, h']
theorem Box.other {w : World} {b : Nat} {T : TypeId} {vs : Array Value} (h : Box w b T vs) {p : Addr} (hp : b ≠ p.block) (v : Value) : Box (w.setCell p v) b T vs := h.keep (Below.heap_setCell w p v b hp)
theorem Box.drew {w : World} {b : Nat} {T : TypeId} {vs : Array Value} (h : Box w b T vs) : Box w.drew b T vs := h
theorem Box.mono {w w' : World} {b : Nat} {T : TypeId} {vs : Array Value} {N : Nat} (h : Box w b T vs) (hb : Below N w w') (hN : w.heap.size ≤ N) : Box w' b T vs := h.keep (hb.block b (by have := h.lt; omega))
theorem Box.grown {w w' : World} {b : Nat} {T : TypeId} {vs : Array Value} {row : Option Nat} (h : Box w b T vs) (hg : w.grownBy w' row) (hr : row ≠ some b) : Box w' b T vs := h.keep (hg.block b h.lt (fun e => hr e.symm))

/-- an empty row, just made -/
theorem Own.made (w : World) (B : Nat) (e : TypeId) (c : Nat) (hb : B ≤ w.heap.size) : Own B e c (w.alloc (.cells #[] e)) (.slice (some ⟨w.heap.size, 0, none⟩) 0 0) [] :=
  ⟨Wide.nil c, by simpa [cellsL] using World.ownsRow_made (size := c) w #[] 0 hb (Nat.zero_le _) (by simp)⟩
/-- the same, its number said -/
theorem Own.made' {w : World} {q B : Nat} {e : TypeId} {c : Nat} (hq : w.heap.size = q) (hb : B ≤ q) : Own B e c (w.alloc (.cells #[] e)) (.slice (some ⟨q, 0, none⟩) 0 0) [] := by
  subst hq
  exact Own.made w B e c hb
/-- a row and a box of another kind are two blocks -/
theorem Own.off {B : Nat} {e : TypeId} {c : Nat} {w : World} {v : Value} {l : List Rw} (h : Own B e c w v l) {q : Nat} {T : TypeId} {vs : Array Value} (hb : Box w q T vs) (hT : T ≠ e) {g : Nat} (hg : v.ownBlock = some g) : g ≠ q := by
  intro e'
  rcases h.shape with ⟨rfl, rfl⟩ | ⟨g', cap, cur, rfl, h2, h3, h4⟩
  · simp [Value.ownBlock] at hg
  · simp only [Value.ownBlock, Option.some.injEq] at hg
    subst hg
    subst e'
    have hb' : w.heap[g']? = some (.cells vs T (0, 0)) := hb
    rw [h3] at hb'
    simp only [Option.some.injEq, Obj.cells.injEq] at hb'
    exact hT hb'.2.1.symm
theorem Own.alloc {B : Nat} {e : TypeId} {c : Nat} {w : World} {v : Value} {l : List Rw} (h : Own B e c w v l) (o : Obj) : Own B e c (w.alloc o) v l := h.keep (Nat.le_refl _) fun g hg => Below.heap_alloc w o g (h.lt hg).2
/-- a store into a box of another kind -/
theorem Own.set {B : Nat} {e : TypeId} {c : Nat} {w : World} {v : Value} {l : List Rw} (h : Own B e c w v l) {q : Nat} {T : TypeId} {vs : Array Value} (hb : Box w q T vs) (hT : T ≠ e) (j : Nat) (u : Value) : Own B e c (w.setCell ⟨q, j, none⟩ u) v l :=
  h.keep (Nat.le_refl _) fun g hg => Below.heap_setCell w _ u g (fun e' => by
    rcases h.shape with ⟨rfl, rfl⟩ | ⟨g', cap, cur, rfl, h2, h3, h4⟩
    · simp [Value.ownBlock] at hg
    · simp only [Value.ownBlock, Option.some.injEq] at hg
      have e'' : g = q := e'
      subst hg
      subst e''
      have hb' : w.heap[g']? = some (.cells vs T (0, 0)) := hb
      rw [h3] at hb'
      simp only [Option.some.injEq, Obj.cells.injEq] at hb'
      exact hT hb'.2.1.symm)
theorem Own.grown {B : Nat} {e : TypeId} {c : Nat} {w w' : World} {v : Value} {l : List Rw} {row : Option Nat} (h : Own B e c w v l) (hg : w.grownBy w' row) (hr : ∀ g, v.ownBlock = some g → row ≠ some g) : Own B e c w' v l :=
  h.keep (Nat.le_refl _) fun g hv => hg.block g (h.lt hv).2 (fun e => hr g hv e.symm)
/-- a row that an append has laid or made longer at number q, another one below q -/
theorem Own.grown_at {B : Nat} {e : TypeId} {c : Nat} {w w0 w' : World} {v : Value} {l : List Rw} {q : Nat} (h : Own B e c w v l) (h0 : Own B e c w0 v l) (hq : w0.heap.size ≤ q) (hg : w.grownBy w' (some q)) : Own B e c w' v l :=
  h.grown hg fun g hv e => by have := (h0.lt hv).2; simp only [Option.some.injEq] at e; omega
theorem Box.grown_at {w w' : World} {b : Nat} {T : TypeId} {vs : Array Value} {q : Nat} (h : Box w b T vs) (hg : w.grownBy w' (some q)) (hq : b ≠ q) : Box w' b T vs := h.grown hg (fun e => hq (by simpa using e.symm))
theorem size_setc (w : World) (p : Addr) (v : Value) : (w.setCell p v).heap.size = w.heap.size := by simp [World.setCell]
/-- eight stores into one block -/
def set8 (w : World) (b : Nat) (a0 a1 a2 a3 a4 a5 a6 a7 : Value) : World := (((((((w.setCell ⟨b, 0, none⟩ a0).setCell ⟨b, 1, none⟩ a1).setCell ⟨b, 2, none⟩ a2).setCell ⟨b, 3, none⟩ a3).setCell ⟨b, 4, none⟩ a4).setCell ⟨b, 5, none⟩ a5).setCell ⟨b, 6, none⟩ a6).setCell ⟨b, 7, none⟩ a7
theorem set8_keep (w : World) (b : Nat) (a0 a1 a2 a3 a4 a5 a6 a7 : Value) {g : Nat} (h : g ≠ b) : (set8 w b a0 a1 a2 a3 a4 a5 a6 a7).heap[g]? = w.heap[g]? := by
  unfold set8
  rw [Below.heap_setCell _ _ _ _ h, Below.heap_setCell _ _ _ _ h, Below.heap_setCell _ _ _ _ h, Below.heap_setCell _ _ _ _ h, Below.heap_setCell _ _ _ _ h, Below.heap_setCell _ _ _ _ h, Below.heap_setCell _ _ _ _ h, Below.heap_setCell _ _ _ _ h]
theorem set8_size (w : World) (b : Nat) (a0 a1 a2 a3 a4 a5 a6 a7 : Value) : (set8 w b a0 a1 a2 a3 a4 a5 a6 a7).heap.size = w.heap.size := by
  unfold set8
  rw [size_setc, size_setc, size_setc, size_setc, size_setc, size_setc, size_setc, size_setc]
theorem set8_below {N : Nat} {w w0 : World} (h : Below N w w0) {b : Nat} (hb : N ≤ b) (a0 a1 a2 a3 a4 a5 a6 a7 : Value) : Below N w (set8 w0 b a0 a1 a2 a3 a4 a5 a6 a7) := by
  unfold set8
  exact (((((((h.setCell (p := ⟨b, 0, none⟩) hb a0).setCell (p := ⟨b, 1, none⟩) hb a1).setCell (p := ⟨b, 2, none⟩) hb a2).setCell (p := ⟨b, 3, none⟩) hb a3).setCell (p := ⟨b, 4, none⟩) hb a4).setCell (p := ⟨b, 5, none⟩) hb a5).setCell (p := ⟨b, 6, none⟩) hb a6).setCell (p := ⟨b, 7, none⟩) hb a7

end Go.Proofs.Ytpghgdnhfhdgmaa
