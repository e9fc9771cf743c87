import Derived.Test.YtooebighlohobaaBa
namespace Go.Proofs.Ytooebighlohobaa
open Go.RowKit

abbrev boolF (D : Nat → Bool) (i _j : Nat) : Value := .bool (D i)
abbrev intF (K : Nat → Nat → Int) (i j : Nat) : Value := .int .i64 (K i j)
abbrev oneF (S : Nat → Int) (i _j : Nat) : Value := .int .i64 (S i)

theorem infoInt : (Try.prog.info? 3).map (fun i => (i.zero, i.size, i.bytes)) = some (some (.int .i64 0), 1, 8) := by kernel_rfl
theorem infoBool : (Try.prog.info? 4).map (fun i => (i.zero, i.size, i.bytes)) = some (some (.bool false), 1, 1) := by kernel_rfl
theorem infoTurn : (Try.prog.info? 92).map (fun i => (i.zero, i.size, i.bytes)) = some (some (.agg #[.int .i64 0, .int .i64 0]), 2, 16) := by kernel_rfl
theorem infoWay : (Try.prog.info? 59).map (fun i => (i.zero, i.size, i.bytes)) = some (some (.agg #[.slice none 0 0, .slice none 0 0, .slice none 0 0, .slice none 0 0, .slice none 0 0]), 5, 120) := by kernel_rfl
theorem infoRow : (Try.prog.info? 38).map (fun i => (i.zero, i.size, i.bytes)) = some (some (.slice none 0 0), 1, 24) := by kernel_rfl

/-- a way: its five lists -/
structure Wy where
  ns : Nat
  S : Nat → Int
  nl : Nat
  L : Nat → Nat → Int
  nf : Nat
  F : Nat → Nat → Int
  no : Nat
  O : Nat → Int
  nm : Nat
  M : Nat → Int
/-- no list of the way is longer than m -/
def Wy.small (y : Wy) (m : Int) : Prop := (y.ns : Int) ≤ m ∧ (y.nl : Int) ≤ m ∧ (y.nf : Int) ≤ m ∧ (y.no : Int) ≤ m ∧ (y.nm : Int) ≤ m
/-- a way's lists, by their slices -/
structure WyIn (C : Nat) (w : World) (y : Wy) (sa la fa oa ma : Option Addr) : Prop where
  s : VsAt 1 C w sa y.ns (oneF y.S)
  l : VsAt 2 C w la y.nl (intF y.L)
  f : VsAt 2 C w fa y.nf (intF y.F)
  o : VsAt 1 C w oa y.no (oneF y.O)
  m : VsAt 1 C w ma y.nm (oneF y.M)
theorem WyIn.mono {C C' : Nat} {w w' : World} {y : Wy} {sa la fa oa ma : Option Addr} {B : Nat} (h : WyIn C w y sa la fa oa ma) (hC : C' ≤ C) (hb : Below B w w') (hB : w.heap.size ≤ B) : WyIn C' w' y sa la fa oa ma :=
  ⟨h.s.mono hC hb hB, h.l.mono hC hb hB, h.f.mono hC hb hB, h.o.mono hC hb hB, h.m.mono hC hb hB⟩
theorem WyIn.keep {C C' : Nat} {w w' : World} {y : Wy} {sa la fa oa ma : Option Addr} (h : WyIn C w y sa la fa oa ma) (hC : C' ≤ C) (hs : w.heap.size ≤ w'.heap.size) (hk : ∀ b, C ≤ b → b < w.heap.size → w'.heap[b]? = w.heap[b]?) : WyIn C' w' y sa la fa oa ma :=
  ⟨h.s.keep hC hs hk, h.l.keep hC hs hk, h.f.keep hC hs hk, h.o.keep hC hs hk, h.m.keep hC hs hk⟩
/-- a list of ways -/
def WsAt (C : Nat) (w : World) (a : Option Addr) (n : Nat) (Y : Nat → Wy) : Prop :=
  0 < n → ∃ b off, a = some ⟨b, off, none⟩ ∧ C ≤ b ∧ b < w.heap.size ∧ ∀ i, i < n → ∃ sa sc la lc fa fc oa oc ma mc,
    w.cell? ⟨b, off + i * 5, none⟩ = some (.slice sa (Y i).ns sc) ∧ w.cell? ⟨b, off + i * 5 + 1, none⟩ = some (.slice la (Y i).nl lc) ∧
    w.cell? ⟨b, off + i * 5 + 2, none⟩ = some (.slice fa (Y i).nf fc) ∧ w.cell? ⟨b, off + i * 5 + 3, none⟩ = some (.slice oa (Y i).no oc) ∧
    w.cell? ⟨b, off + i * 5 + 4, none⟩ = some (.slice ma (Y i).nm mc) ∧ WyIn C w (Y i) sa la fa oa ma
theorem WsAt.keep {C C' : Nat} {w w' : World} {a : Option Addr} {n : Nat} {Y : Nat → Wy} (h : WsAt C w a n Y) (hC : C' ≤ C) (hs : w.heap.size ≤ w'.heap.size) (hk : ∀ b, C ≤ b → b < w.heap.size → w'.heap[b]? = w.heap[b]?) : WsAt C' w' a n Y := by
  intro h0
  obtain ⟨b, off, ha, hge, hlt, hc⟩ := h h0
  refine ⟨b, off, ha, by omega, by omega, fun i hi => ?_⟩
  obtain ⟨sa, sc, la, lc, fa, fc, oa, oc, ma, mc, h1, h2, h3, h4, h5, h6⟩ := hc i hi
  have e := fun o => World.cell?_of_block (w := w) (w' := w') (a := ⟨b, o, none⟩) (hk b hge hlt)
  exact ⟨sa, sc, la, lc, fa, fc, oa, oc, ma, mc, (e _).trans h1, (e _).trans h2, (e _).trans h3, (e _).trans h4, (e _).trans h5, h6.keep hC hs hk⟩
theorem WsAt.mono {C C' : Nat} {w w' : World} {a : Option Addr} {n : Nat} {Y : Nat → Wy} {B : Nat} (h : WsAt C w a n Y) (hC : C' ≤ C) (hb : Below B w w') (hB : w.heap.size ≤ B) : WsAt C' w' a n Y :=
  h.keep hC hb.size fun b _ hlt => hb.block b (by omega)
/-- rows of truths -/
def BsAt (C : Nat) (w : World) (a : Option Addr) (n : Nat) (K : Nat → Nat) (T : Nat → Nat → Bool) : Prop :=
  0 < n → ∃ b off, a = some ⟨b, off, none⟩ ∧ C ≤ b ∧ b < w.heap.size ∧ ∀ i, i < n → ∃ ra rc, w.cell? ⟨b, off + i, none⟩ = some (.slice ra (K i) rc) ∧ VsAt 1 C w ra (K i) (boolF (T i))
theorem BsAt.keep {C C' : Nat} {w w' : World} {a : Option Addr} {n : Nat} {K : Nat → Nat} {T : Nat → Nat → Bool} (h : BsAt C w a n K T) (hC : C' ≤ C) (hs : w.heap.size ≤ w'.heap.size) (hk : ∀ b, C ≤ b → b < w.heap.size → w'.heap[b]? = w.heap[b]?) : BsAt C' w' a n K T := by
  intro h0
  obtain ⟨b, off, ha, hge, hlt, hc⟩ := h h0
  refine ⟨b, off, ha, by omega, by omega, fun i hi => ?_⟩
  obtain ⟨ra, rc, h1, h2⟩ := hc i hi
  exact ⟨ra, rc, (World.cell?_of_block (w := w) (hk b hge hlt)).trans h1, h2.keep hC hs hk⟩
theorem BsAt.mono {C C' : Nat} {w w' : World} {a : Option Addr} {n : Nat} {K : Nat → Nat} {T : Nat → Nat → Bool} {B : Nat} (h : BsAt C w a n K T) (hC : C' ≤ C) (hb : Below B w w') (hB : w.heap.size ≤ B) : BsAt C' w' a n K T :=
  h.keep hC hb.size fun b _ hlt => hb.block b (by omega)

end Go.Proofs.Ytooebighlohobaa
