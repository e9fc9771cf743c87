import Derived.Test.YtflomaagenjfpaaBa
namespace Go.Proofs.Ytflomaagenjfpaa
open Go.RowKit

abbrev boolF (D : Nat → Bool) (i _j : Nat) : Value := .bool (D i)

abbrev intF (K : Nat → Nat → Int) (i j : Nat) : Value := .int .i64 (K i j)

abbrev oneF (S : Nat → Int) (i _j : Nat) : Value := .int .i64 (S i)

theorem infoInt : (Try.prog.info? 3).map (fun i => (i.zero, i.size, i.bytes)) = some (some (.int .i64 0), 1, 8) := by kernel_rfl

theorem infoBool : (Try.prog.info? 4).map (fun i => (i.zero, i.size, i.bytes)) = some (some (.bool false), 1, 1) := by kernel_rfl

theorem infoRow : (Try.prog.info? 23).map (fun i => (i.zero, i.size, i.bytes)) = some (some (.slice none 0 0), 1, 24) := by kernel_rfl

/-- rows of truths -/
def BsAt (C : Nat) (w : World) (a : Option Addr) (n : Nat) (K : Nat → Nat) (T : Nat → Nat → Bool) : Prop :=
  0 < n → ∃ b off, a = some ⟨b, off, none⟩ ∧ C ≤ b ∧ b < w.heap.size ∧ ∀ i, i < n → ∃ ra rc, w.cell? ⟨b, off + i, none⟩ = some (.slice ra (K i) rc) ∧ VsAt 1 C w ra (K i) (boolF (T i))

theorem BsAt.keep {C C' : Nat} {w w' : World} {a : Option Addr} {n : Nat} {K : Nat → Nat} {T : Nat → Nat → Bool} (h : BsAt C w a n K T) (hC : C' ≤ C) (hs : w.heap.size ≤ w'.heap.size) (hk : ∀ b, C ≤ b → b < w.heap.size → w'.heap[b]? = w.heap[b]?) : BsAt C' w' a n K T := by
  intro h0
  obtain ⟨b, off, ha, hge, hlt, hc⟩ := h h0
  refine ⟨b, off, ha, by omega, by omega, fun i hi => ?_⟩
  obtain ⟨ra, rc, h1, h2⟩ := hc i hi
  exact ⟨ra, rc, (World.cell?_of_block (w := w) (hk b hge hlt)).trans h1, h2.keep hC hs hk⟩

theorem BsAt.mono {C C' : Nat} {w w' : World} {a : Option Addr} {n : Nat} {K : Nat → Nat} {T : Nat → Nat → Bool} {B : Nat} (h : BsAt C w a n K T) (hC : C' ≤ C) (hb : Below B w w') (hB : w.heap.size ≤ B) : BsAt C' w' a n K T :=
  h.keep hC hb.size fun b _ hlt => hb.block b (by omega)

/-- a row, by its numbers -/
structure Rw where
  nn : Nat
  X : Nat → Int
  nf : Nat
  F : Nat → Int
  no : Nat
  O : Nat → Bool
  nk : Nat
  K : Nat → Nat
  T : Nat → Nat → Bool
def Rw.fits (r : Rw) : Prop := r.nn ≤ maxLen ∧ r.nf ≤ maxLen ∧ r.no ≤ maxLen ∧ r.nk ≤ maxLen ∧ ∀ i, i < r.nk → r.K i ≤ maxLen
/-- nothing in the row is longer than a million -/
def Rw.small (r : Rw) : Prop := r.nn ≤ 1048576 ∧ r.nf ≤ 1048576 ∧ r.no ≤ 1048576 ∧ r.nk ≤ 1048576 ∧ ∀ i, i < r.nk → r.K i ≤ 1048576
/-- a row's lists, by their slices -/
structure RwIn (C : Nat) (w : World) (r : Rw) (xa fa oa ka : Option Addr) : Prop where
  x : VsAt 1 C w xa r.nn (oneF r.X)
  f : VsAt 1 C w fa r.nf (oneF r.F)
  o : VsAt 1 C w oa r.no (boolF r.O)
  k : BsAt C w ka r.nk r.K r.T
theorem RwIn.keep {C C' : Nat} {w w' : World} {r : Rw} {xa fa oa ka : Option Addr} (h : RwIn C w r xa fa oa ka) (hC : C' ≤ C) (hs : w.heap.size ≤ w'.heap.size) (hk : ∀ b, C ≤ b → b < w.heap.size → w'.heap[b]? = w.heap[b]?) : RwIn C' w' r xa fa oa ka := ⟨h.x.keep hC hs hk, h.f.keep hC hs hk, h.o.keep hC hs hk, h.k.keep hC hs hk⟩
theorem RwIn.mono {C C' : Nat} {w w' : World} {r : Rw} {xa fa oa ka : Option Addr} {B : Nat} (h : RwIn C w r xa fa oa ka) (hC : C' ≤ C) (hb : Below B w w') (hB : w.heap.size ≤ B) : RwIn C' w' r xa fa oa ka :=
  h.keep hC hb.size fun b _ hlt => hb.block b (by omega)
theorem RwIn.le {C C' : Nat} {w : World} {r : Rw} {xa fa oa ka : Option Addr} (h : RwIn C w r xa fa oa ka) (hC : C' ≤ C) : RwIn C' w r xa fa oa ka := h.keep hC (Nat.le_refl _) fun _ _ _ => rfl

end Go.Proofs.Ytflomaagenjfpaa
