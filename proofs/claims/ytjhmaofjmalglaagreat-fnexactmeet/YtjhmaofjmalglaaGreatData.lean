import Derived.Test.YtjhmaofjmalglaaGreatChecked
import Derived.WalkKit
import Derived.WalkSpells
import Derived.WalkLawsBesides
namespace Go.Proofs.YtjhmaofjmalglaaGreat
open Go.RowKit

structure Pc where
  nm : ByteArray
  ln : Int
  sp : Int
  br : Int

structure En where
  pc : Int
  sd : Int

structure Jt where
  kd : Int
  nm : ByteArray
  ne : Nat
  E : Nat → En

/-- a slice of pieces, of which every block has a number from C on -/
def PsAt (C : Nat) (w : World) (a : Option Addr) (n : Nat) (P : Nat → Pc) : Prop :=
  0 < n → ∃ b off, a = some ⟨b, off, none⟩ ∧ C ≤ b ∧ b < w.heap.size ∧ ∀ i, i < n →
    w.cell? ⟨b, off + i * 4, none⟩ = some (.string (P i).nm) ∧ w.cell? ⟨b, off + i * 4 + 1, none⟩ = some (.int .i64 (P i).ln) ∧
    w.cell? ⟨b, off + i * 4 + 2, none⟩ = some (.int .i64 (P i).sp) ∧ w.cell? ⟨b, off + i * 4 + 3, none⟩ = some (.int .i64 (P i).br)

def EsAt (C : Nat) (w : World) (a : Option Addr) (n : Nat) (E : Nat → En) : Prop :=
  0 < n → ∃ b off, a = some ⟨b, off, none⟩ ∧ C ≤ b ∧ b < w.heap.size ∧ ∀ i, i < n →
    w.cell? ⟨b, off + i * 2, none⟩ = some (.int .i64 (E i).pc) ∧ w.cell? ⟨b, off + i * 2 + 1, none⟩ = some (.int .i64 (E i).sd)

def JsAt (C : Nat) (w : World) (a : Option Addr) (n : Nat) (J : Nat → Jt) : Prop :=
  0 < n → ∃ b off, a = some ⟨b, off, none⟩ ∧ C ≤ b ∧ b < w.heap.size ∧ ∀ i, i < n → ∃ ea ec,
    w.cell? ⟨b, off + i * 3, none⟩ = some (.int .i64 (J i).kd) ∧ w.cell? ⟨b, off + i * 3 + 1, none⟩ = some (.string (J i).nm) ∧
    w.cell? ⟨b, off + i * 3 + 2, none⟩ = some (.slice ea (J i).ne ec) ∧ EsAt C w ea (J i).ne (J i).E

/-- what lies in blocks that read as they did is still there: of a set of blocks -/
theorem PsAt.keep {C C' : Nat} {w w' : World} {a : Option Addr} {n : Nat} {P : Nat → Pc} (h : PsAt C w a n P) (hC : C' ≤ C) (hs : w.heap.size ≤ w'.heap.size)
    (hk : ∀ b, C ≤ b → b < w.heap.size → w'.heap[b]? = w.heap[b]?) : PsAt C' w' a n P := by
  intro h0
  obtain ⟨b, off, ha, hge, hlt, hc⟩ := h h0
  refine ⟨b, off, ha, by omega, by omega, fun i hi => ?_⟩
  obtain ⟨h1, h2, h3, h4⟩ := hc i hi
  have e := hk b hge hlt
  exact ⟨(World.cell?_of_block (w := w) e).trans h1, (World.cell?_of_block (w := w) e).trans h2, (World.cell?_of_block (w := w) e).trans h3, (World.cell?_of_block (w := w) e).trans h4⟩

theorem EsAt.keep {C C' : Nat} {w w' : World} {a : Option Addr} {n : Nat} {E : Nat → En} (h : EsAt C w a n E) (hC : C' ≤ C) (hs : w.heap.size ≤ w'.heap.size)
    (hk : ∀ b, C ≤ b → b < w.heap.size → w'.heap[b]? = w.heap[b]?) : EsAt C' w' a n E := by
  intro h0
  obtain ⟨b, off, ha, hge, hlt, hc⟩ := h h0
  refine ⟨b, off, ha, by omega, by omega, fun i hi => ?_⟩
  obtain ⟨h1, h2⟩ := hc i hi
  have e := hk b hge hlt
  exact ⟨(World.cell?_of_block (w := w) e).trans h1, (World.cell?_of_block (w := w) e).trans h2⟩

theorem JsAt.keep {C C' : Nat} {w w' : World} {a : Option Addr} {n : Nat} {J : Nat → Jt} (h : JsAt C w a n J) (hC : C' ≤ C) (hs : w.heap.size ≤ w'.heap.size)
    (hk : ∀ b, C ≤ b → b < w.heap.size → w'.heap[b]? = w.heap[b]?) : JsAt C' w' a n J := by
  intro h0
  obtain ⟨b, off, ha, hge, hlt, hc⟩ := h h0
  refine ⟨b, off, ha, by omega, by omega, fun i hi => ?_⟩
  obtain ⟨ea, ec, h1, h2, h3, h4⟩ := hc i hi
  have e := hk b hge hlt
  exact ⟨ea, ec, (World.cell?_of_block (w := w) e).trans h1, (World.cell?_of_block (w := w) e).trans h2, (World.cell?_of_block (w := w) e).trans h3, h4.keep hC hs hk⟩

theorem PsAt.mono {C C' : Nat} {w w' : World} {a : Option Addr} {n : Nat} {P : Nat → Pc} {B : Nat} (h : PsAt C w a n P) (hC : C' ≤ C) (hb : Below B w w') (hB : w.heap.size ≤ B) : PsAt C' w' a n P :=
  h.keep hC hb.size fun b _ hlt => hb.block b (by omega)
theorem EsAt.mono {C C' : Nat} {w w' : World} {a : Option Addr} {n : Nat} {E : Nat → En} {B : Nat} (h : EsAt C w a n E) (hC : C' ≤ C) (hb : Below B w w') (hB : w.heap.size ≤ B) : EsAt C' w' a n E :=
  h.keep hC hb.size fun b _ hlt => hb.block b (by omega)
theorem JsAt.mono {C C' : Nat} {w w' : World} {a : Option Addr} {n : Nat} {J : Nat → Jt} {B : Nat} (h : JsAt C w a n J) (hC : C' ≤ C) (hb : Below B w w') (hB : w.heap.size ≤ B) : JsAt C' w' a n J :=
  h.keep hC hb.size fun b _ hlt => hb.block b (by omega)

theorem size_set (w : World) (a : Addr) (v : Value) : w.heap.size ≤ (w.setCell a v).heap.size := by simp [World.setCell]
theorem PsAt.set {C : Nat} {w : World} {a : Option Addr} {n : Nat} {P : Nat → Pc} {p : Addr} {v : Value} (h : PsAt C w a n P) (hp : p.block < C) : PsAt C (w.setCell p v) a n P :=
  h.keep (Nat.le_refl _) (size_set _ _ _) fun b hb _ => Below.heap_setCell _ _ _ _ (by omega)
theorem EsAt.set {C : Nat} {w : World} {a : Option Addr} {n : Nat} {E : Nat → En} {p : Addr} {v : Value} (h : EsAt C w a n E) (hp : p.block < C) : EsAt C (w.setCell p v) a n E :=
  h.keep (Nat.le_refl _) (size_set _ _ _) fun b hb _ => Below.heap_setCell _ _ _ _ (by omega)
theorem JsAt.set {C : Nat} {w : World} {a : Option Addr} {n : Nat} {J : Nat → Jt} {p : Addr} {v : Value} (h : JsAt C w a n J) (hp : p.block < C) : JsAt C (w.setCell p v) a n J :=
  h.keep (Nat.le_refl _) (size_set _ _ _) fun b hb _ => Below.heap_setCell _ _ _ _ (by omega)

/-- old cells and marks read as they did -/
theorem bcell {W w1 : World} (hb : Below W.heap.size W w1) : (∀ b o, b < W.heap.size → w1.cell? ⟨b, o, none⟩ = W.cell? ⟨b, o, none⟩) ∧ (∀ b o, b < W.heap.size → w1.frozen? ⟨b, o, none⟩ = W.frozen? ⟨b, o, none⟩) :=
  ⟨fun b o h => hb.cell (p := ⟨b, o, none⟩) h, fun b o h => hb.frozen (p := ⟨b, o, none⟩) h⟩

theorem bcellB {B : Nat} {W w1 : World} (hb : Below B W w1) : (∀ b o, b < B → w1.cell? ⟨b, o, none⟩ = W.cell? ⟨b, o, none⟩) ∧ (∀ b o, b < B → w1.frozen? ⟨b, o, none⟩ = W.frozen? ⟨b, o, none⟩) :=
  ⟨fun b o h => hb.cell (p := ⟨b, o, none⟩) h, fun b o h => hb.frozen (p := ⟨b, o, none⟩) h⟩
theorem cset_same {w : World} {b o : Nat} {u v : Value} (h : w.cell? ⟨b, o, none⟩ = some u) : (w.setCell ⟨b, o, none⟩ v).cell? ⟨b, o, none⟩ = some v :=
  World.cell?_setCell_same' w _ v (by rw [h]; rfl)
theorem cset_ne (w : World) (b o b' o' : Nat) (v : Value) (h : b ≠ b' ∨ o ≠ o') : (w.setCell ⟨b, o, none⟩ v).cell? ⟨b', o', none⟩ = w.cell? ⟨b', o', none⟩ := by
  apply World.cell?_setCell_other
  intro e
  simp only [Addr.mk.injEq] at e
  omega

/-- new blocks alone -/
theorem bel1 (w : World) (a : Obj) : Below w.heap.size w (w.alloc a) := (Below.refl _ _).alloc (Nat.le_refl _) _
theorem bel2 (w : World) (a b : Obj) : Below w.heap.size w ((w.alloc a).alloc b) := (bel1 w a).alloc (by simp) _
theorem bel3 (w : World) (a b c : Obj) : Below w.heap.size w (((w.alloc a).alloc b).alloc c) := (bel2 w a b).alloc (by simp; omega) _
theorem bel4 (w : World) (a b c d : Obj) : Below w.heap.size w ((((w.alloc a).alloc b).alloc c).alloc d) := (bel3 w a b c).alloc (by simp; omega) _

end Go.Proofs.YtjhmaofjmalglaaGreat
