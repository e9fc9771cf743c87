import Derived.Test.YtooebighlohobaaBf
namespace Go.Proofs.Ytooebighlohobaa
open Go.RowKit

/-- what lies there while a desk is made -/
def DkM (p : Pl) (w : World) (wb yb bb ob db n : Nat) (pv : Value) (np : Nat) (iv : Value) (ni : Nat) (W : World) : Prop :=
  Below w.heap.size w W ∧ Box W w.heap.size 33 #[.int .i64 (n : Int), .slice (some ⟨wb, 0, none⟩) p.nw p.nw, .slice (some ⟨yb, 0, none⟩) p.ny p.ny, .slice (some ⟨bb, 0, none⟩) p.nb p.nb, .int .i64 p.hold] ∧ Box W (w.heap.size + 1) 42 #[.bool false, .slice none 0 0, .slice none 0 0, .slice none 0 0] ∧ Box W db 74 #[.int .i64 (n : Int), .slice (some ⟨wb, 0, none⟩) p.nw p.nw, .slice (some ⟨yb, 0, none⟩) p.ny p.ny, .slice (some ⟨bb, 0, none⟩) p.nb p.nb, .int .i64 p.hold, .slice (some ⟨ob, 0, none⟩) n n, pv, iv] ∧ VOwn ob 4 1 W (.slice (some ⟨ob, 0, none⟩) n n) n (boolF fun _ => false) ∧ VOwn (w.heap.size + 1 + 1) 69 2 W (pv) np (intF fun _ _ => 1) ∧ VOwn (w.heap.size + 1 + 1) 115 1 W (iv) ni (fun _ _ => .iface 76 (.agg #[])) ∧ w.heap.size + 1 < ob ∧ w.heap.size + 1 < db
theorem DkM.mono {p : Pl} {w : World} {wb yb bb ob db n : Nat} {pv : Value} {np : Nat} {iv : Value} {ni : Nat} {W W' : World} (h : DkM p w wb yb bb ob db n pv np iv ni W) (hb : Below W.heap.size W W') : DkM p w wb yb bb ob db n pv np iv ni W' := by
  obtain ⟨h1, h2, h3, h4, h5, h6, h7, h8⟩ := h
  have hl := Nat.le_refl W.heap.size
  exact ⟨h1.trans (hb.mono h1.size), h2.mono hb hl, h3.mono hb hl, h4.mono hb hl, h5.mono (Nat.le_refl _) hb hl, h6.mono (Nat.le_refl _) hb hl, h7.mono (Nat.le_refl _) hb hl, h8⟩
theorem DkM.point {p : Pl} {w : World} {wb yb bb ob db n : Nat} {pv : Value} {np : Nat} {iv : Value} {ni : Nat} {W W' : World} {pv' : Value} (h : DkM p w wb yb bb ob db n pv np iv ni W) (hq : VOwn (w.heap.size + 1 + 1) 69 2 W' pv' (np + 1) (intF fun _ _ => 1)) (hg : W.grownBy W' pv.ownBlock) :
    DkM p w wb yb bb ob db n pv' (np + 1) iv ni (W'.setCell ⟨db, 6, none⟩ pv') ∧ Box W' db 74 #[.int .i64 (n : Int), .slice (some ⟨wb, 0, none⟩) p.nw p.nw, .slice (some ⟨yb, 0, none⟩) p.ny p.ny, .slice (some ⟨bb, 0, none⟩) p.nb p.nb, .int .i64 p.hold, .slice (some ⟨ob, 0, none⟩) n n, pv, iv] := by
  obtain ⟨h1, h2, h3, h4, h5, h6, h7, h8, h9⟩ := h
  have hb4 : Box W' db 74 #[.int .i64 (n : Int), .slice (some ⟨wb, 0, none⟩) p.nw p.nw, .slice (some ⟨yb, 0, none⟩) p.ny p.ny, .slice (some ⟨bb, 0, none⟩) p.nb p.nb, .int .i64 p.hold, .slice (some ⟨ob, 0, none⟩) n n, pv, iv] := h4.grown hg fun e => h6.off h4 (by decide) e rfl
  have K : ∀ b T cur, Box W b T cur → T ≠ 69 → b ≠ db → (W'.setCell ⟨db, 6, none⟩ pv').heap[b]? = W.heap[b]? := fun b T cur hb hT hne =>
    (Below.heap_setCell _ _ _ _ hne).trans (hg.block b hb.lt fun e => h6.off hb hT e.symm rfl)
  have hB : Below w.heap.size W (W'.setCell ⟨db, 6, none⟩ pv') := (Below.of_grown hg h1.size fun g e => by have := (h6.lt e).1; omega).setCell (by show w.heap.size ≤ db; omega) _
  exact ⟨⟨h1.trans hB, h2.keep (K _ _ _ h2 (by decide) (by omega)), h3.keep (K _ _ _ h3 (by decide) (by omega)), hb4.set 6 pv', h5.by_ fun b cur hb => K b 4 cur hb (by decide) (hb.ne h4 (by decide)), hq.set hb4 (by decide) 6 pv', h7.by_ fun b cur hb => K b 115 cur hb (by decide) (hb.ne h4 (by decide)), h8, h9⟩, hb4⟩
theorem DkM.way {p : Pl} {w : World} {wb yb bb ob db n : Nat} {pv : Value} {np : Nat} {iv : Value} {ni : Nat} {W W' : World} {iv' : Value} (h : DkM p w wb yb bb ob db n pv np iv ni W) (hq : VOwn (w.heap.size + 1 + 1) 115 1 W' iv' (ni + 1) (fun _ _ => .iface 76 (.agg #[]))) (hg : W.grownBy W' iv.ownBlock) :
    DkM p w wb yb bb ob db n pv np iv' (ni + 1) (W'.setCell ⟨db, 7, none⟩ iv') ∧ Box W' db 74 #[.int .i64 (n : Int), .slice (some ⟨wb, 0, none⟩) p.nw p.nw, .slice (some ⟨yb, 0, none⟩) p.ny p.ny, .slice (some ⟨bb, 0, none⟩) p.nb p.nb, .int .i64 p.hold, .slice (some ⟨ob, 0, none⟩) n n, pv, iv] := by
  obtain ⟨h1, h2, h3, h4, h5, h6, h7, h8, h9⟩ := h
  have hb4 : Box W' db 74 #[.int .i64 (n : Int), .slice (some ⟨wb, 0, none⟩) p.nw p.nw, .slice (some ⟨yb, 0, none⟩) p.ny p.ny, .slice (some ⟨bb, 0, none⟩) p.nb p.nb, .int .i64 p.hold, .slice (some ⟨ob, 0, none⟩) n n, pv, iv] := h4.grown hg fun e => h7.off h4 (by decide) e rfl
  have K : ∀ b T cur, Box W b T cur → T ≠ 115 → b ≠ db → (W'.setCell ⟨db, 7, none⟩ iv').heap[b]? = W.heap[b]? := fun b T cur hb hT hne =>
    (Below.heap_setCell _ _ _ _ hne).trans (hg.block b hb.lt fun e => h7.off hb hT e.symm rfl)
  have hB : Below w.heap.size W (W'.setCell ⟨db, 7, none⟩ iv') := (Below.of_grown hg h1.size fun g e => by have := (h7.lt e).1; omega).setCell (by show w.heap.size ≤ db; omega) _
  exact ⟨⟨h1.trans hB, h2.keep (K _ _ _ h2 (by decide) (by omega)), h3.keep (K _ _ _ h3 (by decide) (by omega)), hb4.set 7 iv', h5.by_ fun b cur hb => K b 4 cur hb (by decide) (hb.ne h4 (by decide)), h6.by_ fun b cur hb => K b 69 cur hb (by decide) (hb.ne h4 (by decide)), hq.set hb4 (by decide) 7 iv', h8, h9⟩, hb4⟩
theorem two (w : World) (a b : Obj) : ((w.alloc a).alloc b).drew.heap[w.heap.size]? = some a ∧ ((w.alloc a).alloc b).drew.heap[w.heap.size + 1]? = some b ∧ Below w.heap.size w ((w.alloc a).alloc b).drew := by
  have h1 : (w.alloc a).heap.size = w.heap.size + 1 := by simp
  refine ⟨?_, ?_, (bel2 w a b).drew⟩
  · show ((w.alloc a).alloc b).heap[w.heap.size]? = _
    rw [Below.heap_alloc _ _ _ (by omega), heap_alloc_new]
  · show ((w.alloc a).alloc b).heap[w.heap.size + 1]? = _
    rw [← h1, heap_alloc_new]

end Go.Proofs.Ytooebighlohobaa
