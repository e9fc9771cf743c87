import Derived.Test.YtjhmaofjmalglaaGreatChecked
import Derived.WalkKit
import Derived.WalkSpells
import Derived.WalkLawsBesides
import Derived.BigQuiet
namespace Go.Proofs.YtjhmaofjmalglaaGreat
open Go.RowKit
structure Pc where
 nm : ByteArray
 ln : Int
 sp : Int
 br : Int
structure En where
 pc : Int
 sd : Int
structure Jt where
 kd : Int
 nm : ByteArray
 ne : Nat
 E : Nat → En
def PsAt (C : Nat) (w : World) (a : Option Addr) (n : Nat) (P : Nat → Pc) : Prop :=
 0 < n → ∃ b off, a = some ⟨b, off, none⟩ ∧ C ≤ b ∧ b < w.heap.size ∧ ∀ i, i < n →
  w.cell? ⟨b, off + i * 4, none⟩ = some (.string (P i).nm) ∧ w.cell? ⟨b, off + i * 4 + 1, none⟩ = some (.int .i64 (P i).ln) ∧
  w.cell? ⟨b, off + i * 4 + 2, none⟩ = some (.int .i64 (P i).sp) ∧ w.cell? ⟨b, off + i * 4 + 3, none⟩ = some (.int .i64 (P i).br)
def EsAt (C : Nat) (w : World) (a : Option Addr) (n : Nat) (E : Nat → En) : Prop :=
 0 < n → ∃ b off, a = some ⟨b, off, none⟩ ∧ C ≤ b ∧ b < w.heap.size ∧ ∀ i, i < n →
  w.cell? ⟨b, off + i * 2, none⟩ = some (.int .i64 (E i).pc) ∧ w.cell? ⟨b, off + i * 2 + 1, none⟩ = some (.int .i64 (E i).sd)
def JsAt (C : Nat) (w : World) (a : Option Addr) (n : Nat) (J : Nat → Jt) : Prop :=
 0 < n → ∃ b off, a = some ⟨b, off, none⟩ ∧ C ≤ b ∧ b < w.heap.size ∧ ∀ i, i < n → ∃ ea ec,
  w.cell? ⟨b, off + i * 3, none⟩ = some (.int .i64 (J i).kd) ∧ w.cell? ⟨b, off + i * 3 + 1, none⟩ = some (.string (J i).nm) ∧
  w.cell? ⟨b, off + i * 3 + 2, none⟩ = some (.slice ea (J i).ne ec) ∧ EsAt C w ea (J i).ne (J i).E
theorem PsAt.keep {C C' : Nat} {w w' : World} {a : Option Addr} {n : Nat} {P : Nat → Pc} (h : PsAt C w a n P) (hC : C' ≤ C) (hs : w.heap.size ≤ w'.heap.size)
  (hk : ∀ b, C ≤ b → b < w.heap.size → w'.heap[b]? = w.heap[b]?) : PsAt C' w' a n P := by
 intro h0
 obtain ⟨b, off, ha, hge, hlt, hc⟩ := h h0
 refine ⟨b, off, ha, by omega, by omega, fun i hi => ?_⟩
 obtain ⟨h1, h2, h3, h4⟩ := hc i hi
 have e := hk b hge hlt
 exact ⟨(World.cell?_of_block (w := w) e).trans h1, (World.cell?_of_block (w := w) e).trans h2, (World.cell?_of_block (w := w) e).trans h3, (World.cell?_of_block (w := w) e).trans h4⟩
theorem EsAt.keep {C C' : Nat} {w w' : World} {a : Option Addr} {n : Nat} {E : Nat → En} (h : EsAt C w a n E) (hC : C' ≤ C) (hs : w.heap.size ≤ w'.heap.size)
  (hk : ∀ b, C ≤ b → b < w.heap.size → w'.heap[b]? = w.heap[b]?) : EsAt C' w' a n E := by
 intro h0
 obtain ⟨b, off, ha, hge, hlt, hc⟩ := h h0
 refine ⟨b, off, ha, by omega, by omega, fun i hi => ?_⟩
 obtain ⟨h1, h2⟩ := hc i hi
 have e := hk b hge hlt
 exact ⟨(World.cell?_of_block (w := w) e).trans h1, (World.cell?_of_block (w := w) e).trans h2⟩
theorem JsAt.keep {C C' : Nat} {w w' : World} {a : Option Addr} {n : Nat} {J : Nat → Jt} (h : JsAt C w a n J) (hC : C' ≤ C) (hs : w.heap.size ≤ w'.heap.size)
  (hk : ∀ b, C ≤ b → b < w.heap.size → w'.heap[b]? = w.heap[b]?) : JsAt C' w' a n J := by
 intro h0
 obtain ⟨b, off, ha, hge, hlt, hc⟩ := h h0
 refine ⟨b, off, ha, by omega, by omega, fun i hi => ?_⟩
 obtain ⟨ea, ec, h1, h2, h3, h4⟩ := hc i hi
 have e := hk b hge hlt
 exact ⟨ea, ec, (World.cell?_of_block (w := w) e).trans h1, (World.cell?_of_block (w := w) e).trans h2, (World.cell?_of_block (w := w) e).trans h3, h4.keep hC hs hk⟩
theorem PsAt.mono {C C' : Nat} {w w' : World} {a : Option Addr} {n : Nat} {P : Nat → Pc} {B : Nat} (h : PsAt C w a n P) (hC : C' ≤ C) (hb : Below B w w') (hB : w.heap.size ≤ B) : PsAt C' w' a n P :=
 h.keep hC hb.size fun b _ hlt => hb.block b (by omega)
theorem EsAt.mono {C C' : Nat} {w w' : World} {a : Option Addr} {n : Nat} {E : Nat → En} {B : Nat} (h : EsAt C w a n E) (hC : C' ≤ C) (hb : Below B w w') (hB : w.heap.size ≤ B) : EsAt C' w' a n E :=
 h.keep hC hb.size fun b _ hlt => hb.block b (by omega)
theorem JsAt.mono {C C' : Nat} {w w' : World} {a : Option Addr} {n : Nat} {J : Nat → Jt} {B : Nat} (h : JsAt C w a n J) (hC : C' ≤ C) (hb : Below B w w') (hB : w.heap.size ≤ B) : JsAt C' w' a n J :=
 h.keep hC hb.size fun b _ hlt => hb.block b (by omega)
theorem size_set (w : World) (a : Addr) (v : Value) : w.heap.size ≤ (w.setCell a v).heap.size := by simp [World.setCell]
theorem PsAt.set {C : Nat} {w : World} {a : Option Addr} {n : Nat} {P : Nat → Pc} {p : Addr} {v : Value} (h : PsAt C w a n P) (hp : p.block < C) : PsAt C (w.setCell p v) a n P :=
 h.keep (Nat.le_refl _) (size_set _ _ _) fun b hb _ => Below.heap_setCell _ _ _ _ (by omega)
theorem EsAt.set {C : Nat} {w : World} {a : Option Addr} {n : Nat} {E : Nat → En} {p : Addr} {v : Value} (h : EsAt C w a n E) (hp : p.block < C) : EsAt C (w.setCell p v) a n E :=
 h.keep (Nat.le_refl _) (size_set _ _ _) fun b hb _ => Below.heap_setCell _ _ _ _ (by omega)
theorem JsAt.set {C : Nat} {w : World} {a : Option Addr} {n : Nat} {J : Nat → Jt} {p : Addr} {v : Value} (h : JsAt C w a n J) (hp : p.block < C) : JsAt C (w.setCell p v) a n J :=
 h.keep (Nat.le_refl _) (size_set _ _ _) fun b hb _ => Below.heap_setCell _ _ _ _ (by omega)
theorem bcell {W w1 : World} (hb : Below W.heap.size W w1) : (∀ b o, b < W.heap.size → w1.cell? ⟨b, o, none⟩ = W.cell? ⟨b, o, none⟩) ∧ (∀ b o, b < W.heap.size → w1.frozen? ⟨b, o, none⟩ = W.frozen? ⟨b, o, none⟩) :=
 ⟨fun b o h => hb.cell (p := ⟨b, o, none⟩) h, fun b o h => hb.frozen (p := ⟨b, o, none⟩) h⟩
theorem cset_same {w : World} {b o : Nat} {u v : Value} (h : w.cell? ⟨b, o, none⟩ = some u) : (w.setCell ⟨b, o, none⟩ v).cell? ⟨b, o, none⟩ = some v :=
 World.cell?_setCell_same' w _ v (by rw [h]; rfl)
theorem cset_ne (w : World) (b o b' o' : Nat) (v : Value) (h : b ≠ b' ∨ o ≠ o') : (w.setCell ⟨b, o, none⟩ v).cell? ⟨b', o', none⟩ = w.cell? ⟨b', o', none⟩ := by
 apply World.cell?_setCell_other
 intro e
 simp only [Addr.mk.injEq] at e
 omega
theorem bel1 (w : World) (a : Obj) : Below w.heap.size w (w.alloc a) := (Below.refl _ _).alloc (Nat.le_refl _) _
theorem bel2 (w : World) (a b : Obj) : Below w.heap.size w ((w.alloc a).alloc b) := (bel1 w a).alloc (by simp) _
theorem bel3 (w : World) (a b c : Obj) : Below w.heap.size w (((w.alloc a).alloc b).alloc c) := (bel2 w a b).alloc (by simp; omega) _
end Go.Proofs.YtjhmaofjmalglaaGreat
namespace Go.Proofs.YtjhmaofjmalglaaGreat
open Go.RowKit
def inB (x a b : Int) : Bool := decide (a ≤ x) && decide (x ≤ b)
set_option maxHeartbeats 400000 in
theorem in19 (x a b : Int) (w : World) :
  Calls Tryz.prog 139 #[.int .i64 x, .int .i64 a, .int .i64 b] w fun e w' => e = .returned (.bool (inB x a b)) ∧ w' = w := by
 by_cases h1 : a ≤ x
 ·
  by_cases h2 : x ≤ b
  ·
   go_enter Tryz.func139, Tryz.ntmps139
   go_wp2
   go_ret
   exact ⟨by simp [inB, h1, h2], rfl⟩
  ·
   go_enter Tryz.func139, Tryz.ntmps139
   go_wp2
   go_ret
   exact ⟨by simp [inB, h1, h2], rfl⟩
 ·
  go_enter Tryz.func139, Tryz.ntmps139
  go_wp2
  go_ret
  exact ⟨by simp [inB]; omega, rfl⟩
set_option maxHeartbeats 400000 in
theorem within43 (x a b : Int) (w : World) :
  Calls Tryz.prog 43 #[.int .i64 x, .int .i64 a, .int .i64 b] w fun e w' => e = .returned (.bool (inB x a b)) ∧ w' = w := by
 by_cases h1 : a ≤ x
 ·
  by_cases h2 : x ≤ b
  ·
   go_enter Tryz.func43, Tryz.ntmps43
   go_wp2
   go_ret
   exact ⟨by simp [inB, h1, h2], rfl⟩
  ·
   go_enter Tryz.func43, Tryz.ntmps43
   go_wp2
   go_ret
   exact ⟨by simp [inB, h1, h2], rfl⟩
 ·
  go_enter Tryz.func43, Tryz.ntmps43
  go_wp2
  go_ret
  exact ⟨by simp [inB]; omega, rfl⟩
def szL (left n : Int) : Int := if left < n then -1 else left - n
set_option maxHeartbeats 400000 in
theorem szPiece37 (nm : ByteArray) (a b c left : Int) (w : World) (hs : nm.size ≤ maxLen) (h0 : 0 ≤ left) (h1 : left ≤ 1048576) :
  Calls Tryz.prog 74 #[.agg #[.string nm, .int .i64 a, .int .i64 b, .int .i64 c], .int .i64 left] w fun e w' =>
   e = .returned (.int .i64 (szL left nm.size)) ∧ Below w.heap.size w w' := by
 unfold maxLen at hs
 by_cases h : left < (nm.size : Int)
 ·
  go_enter Tryz.func74, Tryz.ntmps74
  go_wp2
  go_ret
  exact ⟨by simp [szL]; omega, (Below.refl _ _).alloc (Nat.le_refl _) _⟩
 ·
  go_enter Tryz.func74, Tryz.ntmps74
  go_wp2
  go_ret
  exact ⟨by simp [szL]; omega, (Below.refl _ _).alloc (Nat.le_refl _) _⟩
set_option maxHeartbeats 400000 in
theorem szEndS48 (a : Option Addr) (len cap : Nat) (left : Int) (w : World) (hs : len ≤ maxLen) (h0 : 0 ≤ left) (h1 : left ≤ 1048576) :
  Calls Tryz.prog 118 #[.slice a len cap, .int .i64 left] w fun e w' =>
   e = .returned (.int .i64 (szL left len)) ∧ w' = w := by
 unfold maxLen at hs
 by_cases h : left < (len : Int)
 ·
  go_enter Tryz.func118, Tryz.ntmps118
  go_wp2
  go_ret
  exact ⟨by simp [szL]; omega, rfl⟩
 ·
  go_enter Tryz.func118, Tryz.ntmps118
  go_wp2
  go_ret
  exact ⟨by simp [szL]; omega, rfl⟩
set_option maxHeartbeats 400000 in
theorem toPiece40 (p : Pc) (w : World) :
  Calls Tryz.prog 81 #[.agg #[.string p.nm, .int .i64 p.ln, .int .i64 p.sp, .int .i64 p.br]] w fun e w' =>
   e = .returned (.agg #[.string p.nm, .int .i64 p.ln, .int .i64 p.sp, .int .i64 p.br]) ∧ Below w.heap.size w w' := by
 go_enter Tryz.func81, Tryz.ntmps81
 go_wp2
 exact bodyPost_ret (v := .agg #[.string p.nm, .int .i64 p.ln, .int .i64 p.sp, .int .i64 p.br]) (by simp [results, Tryz.results81, go_sem]) rfl ⟨rfl, bel3 _ _ _ _⟩
set_option maxHeartbeats 400000 in
theorem toEnd52 (a b : Int) (w : World) :
  Calls Tryz.prog 142 #[.agg #[.int .i64 a, .int .i64 b]] w fun e w' =>
   e = .returned (.agg #[.int .i64 a, .int .i64 b]) ∧ Below w.heap.size w w' := by
 go_enter Tryz.func142, Tryz.ntmps142
 go_wp2
 exact bodyPost_ret (v := .agg #[.int .i64 a, .int .i64 b]) (by simp [results, Tryz.results142, go_sem]) rfl ⟨rfl, bel3 _ _ _ _⟩
theorem eqPiece46 (p : Pc) (w : World) :
  Calls Tryz.prog 93 #[.agg #[.string p.nm, .int .i64 p.ln, .int .i64 p.sp, .int .i64 p.br], .agg #[.string p.nm, .int .i64 p.ln, .int .i64 p.sp, .int .i64 p.br]] w fun e w' =>
   e = .returned (.bool true) ∧ Below w.heap.size w w' := by
 go_enter Tryz.func93, Tryz.ntmps93
 go_wp2
 go_ret
 exact ⟨rfl, bel2 _ _ _⟩
theorem eqEnd53 (a b : Int) (w : World) :
  Calls Tryz.prog 146 #[.agg #[.int .i64 a, .int .i64 b], .agg #[.int .i64 a, .int .i64 b]] w fun e w' =>
   e = .returned (.bool true) ∧ Below w.heap.size w w' := by
 go_enter Tryz.func146, Tryz.ntmps146
 go_wp2
 go_ret
 exact ⟨rfl, bel2 _ _ _⟩
end Go.Proofs.YtjhmaofjmalglaaGreat
