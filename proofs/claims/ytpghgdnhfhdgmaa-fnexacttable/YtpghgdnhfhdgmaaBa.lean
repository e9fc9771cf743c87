import Derived.Test.YtpghgdnhfhdgmaaChecked
import Derived.WalkKit
import Derived.WalkSpells
import Derived.WalkLawsBesides
import Derived.BigQuiet
import Derived.Deep.RegionWith
namespace Go.Proofs.Ytpghgdnhfhdgmaa
open Go.RowKit

theorem size_set (w : World) (a : Addr) (v : Value) : w.heap.size ≤ (w.setCell a v).heap.size := by simp [World.setCell]
/-- old cells and marks read as they did -/
theorem bcell {W w1 : World} (hb : Below W.heap.size W w1) : (∀ b o, b < W.heap.size → w1.cell? ⟨b, o, none⟩ = W.cell? ⟨b, o, none⟩) ∧ (∀ b o, b < W.heap.size → w1.frozen? ⟨b, o, none⟩ = W.frozen? ⟨b, o, none⟩) :=
  ⟨fun b o h => hb.cell (p := ⟨b, o, none⟩) h, fun b o h => hb.frozen (p := ⟨b, o, none⟩) h⟩

theorem bcellB {B : Nat} {W w1 : World} (hb : Below B W w1) : (∀ b o, b < B → w1.cell? ⟨b, o, none⟩ = W.cell? ⟨b, o, none⟩) ∧ (∀ b o, b < B → w1.frozen? ⟨b, o, none⟩ = W.frozen? ⟨b, o, none⟩) :=
  ⟨fun b o h => hb.cell (p := ⟨b, o, none⟩) h, fun b o h => hb.frozen (p := ⟨b, o, none⟩) h⟩
theorem cset_same {w : World} {b o : Nat} {u v : Value} (h : w.cell? ⟨b, o, none⟩ = some u) : (w.setCell ⟨b, o, none⟩ v).cell? ⟨b, o, none⟩ = some v :=
  World.cell?_setCell_same' w _ v (by rw [h]; rfl)
theorem cset_ne (w : World) (b o b' o' : Nat) (v : Value) (h : b ≠ b' ∨ o ≠ o') : (w.setCell ⟨b, o, none⟩ v).cell? ⟨b', o', none⟩ = w.cell? ⟨b', o', none⟩ := by
  apply World.cell?_setCell_other
  intro e
  simp only [Addr.mk.injEq] at e
  omega

/-- new blocks alone -/
theorem bel1 (w : World) (a : Obj) : Below w.heap.size w (w.alloc a) := (Below.refl _ _).alloc (Nat.le_refl _) _
theorem bel2 (w : World) (a b : Obj) : Below w.heap.size w ((w.alloc a).alloc b) := (bel1 w a).alloc (by simp) _
theorem bel3 (w : World) (a b c : Obj) : Below w.heap.size w (((w.alloc a).alloc b).alloc c) := (bel2 w a b).alloc (by simp; omega) _
theorem bel4 (w : World) (a b c d : Obj) : Below w.heap.size w ((((w.alloc a).alloc b).alloc c).alloc d) := (bel3 w a b c).alloc (by simp; omega) _


theorem cell_keep {B : Nat} {W w1 : World} {b o : Nat} {v : Value} (hb : Below B W w1) (hlt : b < B) (h : W.cell? ⟨b, o, none⟩ = some v) : w1.cell? ⟨b, o, none⟩ = some v := (hb.cell (p := ⟨b, o, none⟩) hlt).trans h
def szL (left n : Int) : Int := if left < n then -1 else left - n

/-- a slice of structs of c integers each -/
def NsAt (c C : Nat) (w : World) (a : Option Addr) (n : Nat) (F : Nat → Nat → Int) : Prop :=
  0 < n → ∃ b off, a = some ⟨b, off, none⟩ ∧ C ≤ b ∧ b < w.heap.size ∧ ∀ i, i < n → ∀ j, j < c → w.cell? ⟨b, off + i * c + j, none⟩ = some (.int .i64 (F i j))

theorem NsAt.keep {c C C' : Nat} {w w' : World} {a : Option Addr} {n : Nat} {F : Nat → Nat → Int} (h : NsAt c C w a n F) (hC : C' ≤ C) (hs : w.heap.size ≤ w'.heap.size)
    (hk : ∀ b, C ≤ b → b < w.heap.size → w'.heap[b]? = w.heap[b]?) : NsAt c C' w' a n F := by
  intro h0
  obtain ⟨b, off, ha, hge, hlt, hc⟩ := h h0
  exact ⟨b, off, ha, by omega, by omega, fun i hi j hj => (World.cell?_of_block (w := w) (hk b hge hlt)).trans (hc i hi j hj)⟩
theorem NsAt.mono {c C C' : Nat} {w w' : World} {a : Option Addr} {n : Nat} {F : Nat → Nat → Int} {B : Nat} (h : NsAt c C w a n F) (hC : C' ≤ C) (hb : Below B w w') (hB : w.heap.size ≤ B) : NsAt c C' w' a n F :=
  h.keep hC hb.size fun b _ hlt => hb.block b (by omega)

structure Rt where
  fr : Int
  to : Int
  ns : Nat
  S : Nat → Nat → Int
  nl : Nat
  L : Nat → Nat → Int
  nx : Nat
  X : Nat → Nat → Int
  np : Nat
  Q : Nat → Nat → Int
  no : Nat
  O : Nat → Nat → Int
  nf : Nat
  F : Nat → Nat → Int

/-- every list of a route is of a modest length -/
def Rt.small (r : Rt) : Prop := r.ns ≤ 1048576 ∧ r.nl ≤ 1048576 ∧ r.nx ≤ 1048576 ∧ r.np ≤ 1048576 ∧ r.no ≤ 1048576 ∧ r.nf ≤ 1048576

/-- a route's lists, by their slices -/
structure RtIn (C : Nat) (w : World) (r : Rt) (sa la xa qa oa fa : Option Addr) : Prop where
  s : NsAt 2 C w sa r.ns r.S
  l : NsAt 2 C w la r.nl r.L
  x : NsAt 1 C w xa r.nx r.X
  q : NsAt 3 C w qa r.np r.Q
  o : NsAt 3 C w oa r.no r.O
  f : NsAt 4 C w fa r.nf r.F

theorem RtIn.keep {C C' : Nat} {w w' : World} {r : Rt} {sa la xa qa oa fa : Option Addr} (h : RtIn C w r sa la xa qa oa fa) (hC : C' ≤ C) (hs : w.heap.size ≤ w'.heap.size)
    (hk : ∀ b, C ≤ b → b < w.heap.size → w'.heap[b]? = w.heap[b]?) : RtIn C' w' r sa la xa qa oa fa :=
  ⟨h.s.keep hC hs hk, h.l.keep hC hs hk, h.x.keep hC hs hk, h.q.keep hC hs hk, h.o.keep hC hs hk, h.f.keep hC hs hk⟩
theorem RtIn.mono {C C' : Nat} {w w' : World} {r : Rt} {sa la xa qa oa fa : Option Addr} {B : Nat} (h : RtIn C w r sa la xa qa oa fa) (hC : C' ≤ C) (hb : Below B w w') (hB : w.heap.size ≤ B) : RtIn C' w' r sa la xa qa oa fa :=
  h.keep hC hb.size fun b _ hlt => hb.block b (by omega)

def RsAt (C : Nat) (w : World) (a : Option Addr) (n : Nat) (R : Nat → Rt) : Prop :=
  0 < n → ∃ b off, a = some ⟨b, off, none⟩ ∧ C ≤ b ∧ b < w.heap.size ∧ ∀ i, i < n → ∃ sa sc la lc xa xc qa qc oa oc fa fc,
    w.cell? ⟨b, off + i * 8, none⟩ = some (.int .i64 (R i).fr) ∧ w.cell? ⟨b, off + i * 8 + 1, none⟩ = some (.int .i64 (R i).to) ∧
    w.cell? ⟨b, off + i * 8 + 2, none⟩ = some (.slice sa (R i).ns sc) ∧ w.cell? ⟨b, off + i * 8 + 3, none⟩ = some (.slice la (R i).nl lc) ∧
    w.cell? ⟨b, off + i * 8 + 4, none⟩ = some (.slice xa (R i).nx xc) ∧ w.cell? ⟨b, off + i * 8 + 5, none⟩ = some (.slice qa (R i).np qc) ∧
    w.cell? ⟨b, off + i * 8 + 6, none⟩ = some (.slice oa (R i).no oc) ∧ w.cell? ⟨b, off + i * 8 + 7, none⟩ = some (.slice fa (R i).nf fc) ∧
    RtIn C w (R i) sa la xa qa oa fa

theorem RsAt.keep {C C' : Nat} {w w' : World} {a : Option Addr} {n : Nat} {R : Nat → Rt} (h : RsAt C w a n R) (hC : C' ≤ C) (hs : w.heap.size ≤ w'.heap.size)
    (hk : ∀ b, C ≤ b → b < w.heap.size → w'.heap[b]? = w.heap[b]?) : RsAt C' w' a n R := by
  intro h0
  obtain ⟨b, off, ha, hge, hlt, hc⟩ := h h0
  refine ⟨b, off, ha, by omega, by omega, fun i hi => ?_⟩
  obtain ⟨sa, sc, la, lc, xa, xc, qa, qc, oa, oc, fa, fc, h1, h2, h3, h4, h5, h6, h7, h8, h9⟩ := hc i hi
  have e := fun o => World.cell?_of_block (w := w) (w' := w') (a := ⟨b, o, none⟩) (hk b hge hlt)
  exact ⟨sa, sc, la, lc, xa, xc, qa, qc, oa, oc, fa, fc, (e _).trans h1, (e _).trans h2, (e _).trans h3, (e _).trans h4, (e _).trans h5, (e _).trans h6, (e _).trans h7, (e _).trans h8, h9.keep hC hs hk⟩
theorem RsAt.mono {C C' : Nat} {w w' : World} {a : Option Addr} {n : Nat} {R : Nat → Rt} {B : Nat} (h : RsAt C w a n R) (hC : C' ≤ C) (hb : Below B w w') (hB : w.heap.size ≤ B) : RsAt C' w' a n R :=
  h.keep hC hb.size fun b _ hlt => hb.block b (by omega)


end Go.Proofs.Ytpghgdnhfhdgmaa
