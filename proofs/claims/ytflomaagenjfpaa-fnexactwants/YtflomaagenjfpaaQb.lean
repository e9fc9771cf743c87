import Derived.Test.YtflomaagenjfpaaSp
namespace Go.Proofs.Ytflomaagenjfpaa
open Go.RowKit

theorem QAt.at0 {w : World} {n cap g : Nat} {F : Nat → Int} (h : QAt w (.slice (some ⟨g, 0, none⟩) n cap) n F (some g)) {i : Nat} (hi : i < n) : w.cell? ⟨g, i, none⟩ = some (.int .i64 (F i)) ∧ w.frozen? ⟨g, i, none⟩ = false := by
  rcases h with ⟨h1, _⟩ | ⟨g', off', cp, h1, h2, h3, h4, h5, h6⟩
  · cases h1
  · simp only [Value.slice.injEq, Option.some.injEq, Addr.mk.injEq, and_true] at h2
    obtain ⟨⟨rfl, rfl⟩, _, rfl⟩ := h2
    have e1 := h6 i hi
    have e2 := (h5 i (by omega)).2
    rw [Nat.zero_add] at e1 e2
    exact ⟨e1, e2⟩
theorem QAt.store0 {w : World} {n cap g : Nat} {F G : Nat → Int} (h : QAt w (.slice (some ⟨g, 0, none⟩) n cap) n F (some g)) {i : Nat} (hi : i < n) (x : Int) (hG : ∀ j, j < n → updI F i x j = G j) : QAt (w.setCell ⟨g, i, none⟩ (.int .i64 x)) (.slice (some ⟨g, 0, none⟩) n cap) n G (some g) := by
  have := h.store hi x
  rw [Nat.zero_add] at this
  exact this.congr hG
theorem QAt.other {w : World} {v : Value} {n : Nat} {F : Nat → Int} {og : Option Nat} (h : QAt w v n F og) {p : Addr} (hp : ∀ g, og = some g → g ≠ p.block) (u : Value) : QAt (w.setCell p u) v n F og :=
  h.keep (by rw [size_setc]; exact Nat.le_refl _) fun g hg => Below.heap_setCell w p u g (hp g hg)
theorem QAt.alloc {w : World} {v : Value} {n : Nat} {F : Nat → Int} {og : Option Nat} (h : QAt w v n F og) (o : Obj) : QAt (w.alloc o) v n F og := h.mono (bel1 w o) (Nat.le_refl _)
theorem QAt.grown {w w' : World} {v : Value} {n : Nat} {F : Nat → Int} {og row : Option Nat} (h : QAt w v n F og) (hg : w.grownBy w' row) (hr : ∀ g, og = some g → row ≠ some g) : QAt w' v n F og :=
  h.keep hg.size fun g e => hg.block g (by subst e; exact h.lt) (fun e' => hr g e e'.symm)
theorem mk0_int (n : Nat) : ∀ i, i < n → (mk0 (.int .i64 0) n)[i]? = some (.int .i64 0) := fun i hi => by
  simp [mk0, madeCells, Value.cells, hi, Nat.mod_one]
theorem QAt.made (w : World) (n : Nat) : QAt (w.alloc (.cells (mk0 (.int .i64 0) n) 3)) (.slice (some ⟨w.heap.size, 0, none⟩) n n) n (fun _ => 0) (some w.heap.size) := by
  have hb : Box (w.alloc (.cells (mk0 (.int .i64 0) n) 3)) w.heap.size 3 (mk0 (.int .i64 0) n) := Box.new w 3 _
  refine .inr ⟨w.heap.size, 0, n, rfl, rfl, hb.lt, Nat.le_refl _, fun j hj => ⟨?_, hb.free _⟩, fun j hj => ?_⟩
  · rw [hb.cell, Nat.zero_add, mk0_int n j hj]
    rfl
  · rw [hb.cell, Nat.zero_add, mk0_int n j hj]
theorem Below.of_grown {w w' : World} {row : Option Nat} {B : Nat} (h : w.grownBy w' row) (hB : B ≤ w.heap.size) (hr : ∀ g, row = some g → B ≤ g) : Below B w w' :=
  ⟨h.os, h.tape, h.output, h.size, fun k hk => h.block k (by omega) (fun e => by have := hr k e.symm; omega)⟩
/-- nothing has changed of the first ones -/
def sameF (r : Rw) (S W : Nat → Int) (i : Nat) : Bool := decide (showF r S i = S i) && decide (wantF r S i = W i)
theorem allB_not {f : Nat → Bool} : ∀ {n : Nat}, allB f n = false → ∃ i, i < n ∧ f i = false
  | 0, h => by simp [allB] at h
  | n + 1, h => by
    simp only [allB, Bool.and_eq_false_iff] at h
    rcases h with h | h
    · obtain ⟨i, hi, hf⟩ := allB_not h
      exact ⟨i, by omega, hf⟩
    · exact ⟨n, by omega, h⟩
theorem Ask.less {r : Rw} (hr : Good r) {S W : Nat → Int} (h : Ask r S W) (hn : allB (sameF r S W) r.nn = false) : roomN r.nn (showF r S) + roomN r.nn (wantF r S) < roomN r.nn S + roomN r.nn W := by
  obtain ⟨i, hi, hf⟩ := allB_not hn
  have h1 : roomN r.nn (showF r S) ≤ roomN r.nn S := roomN_le h.up
  have h2 : roomN r.nn (wantF r S) ≤ roomN r.nn W := roomN_le fun j hj => (h.wl j hj).2
  have hs := h.up i hi
  have hw := (h.wl i hi).2
  by_cases e : showF r S i = S i
  · have e2 : wantF r S i ≠ W i := fun e2 => by simp [sameF, e, e2] at hf
    have := roomN_lt (n := r.nn) (k := i) (S := W) (P := wantF r S) (fun j hj => (h.wl j hj).2) hi (wantF_le r S i) (by omega)
    omega
  · have := roomN_lt (n := r.nn) (k := i) (S := S) (P := showF r S) h.up hi (showF_low hr h.low i hi).2 (by omega)
    omega
/-- what lies there while one is asked after the other -/
structure InM (r : Rw) (w : World) (A : Array Value) (v4 v5 : Value) (S W : Nat → Int) (o4 o5 : Option Nat) (wi : World) (k7 k8 : Nat) (v7 v8 : Value) (o7 o8 : Option Nat) : Prop where
  bel : Below w.heap.size w wi
  box : Box wi w.heap.size 29 A
  q4 : QAt wi v4 r.nn W o4
  q5 : QAt wi v5 r.nn S o5
  q7 : QAt wi v7 k7 (wantF r S) o7
  q8 : QAt wi v8 k8 (showF r S) o8
  l4 : ∀ g, o4 = some g → w.heap.size < g
  l5 : ∀ g, o5 = some g → w.heap.size < g
  l7 : ∀ g, o7 = some g → w.heap.size < g
  l8 : ∀ g, o8 = some g → w.heap.size < g
  s7 : ∀ g, o7 = some g → o4 ≠ some g ∧ o5 ≠ some g ∧ o8 ≠ some g
  s8 : ∀ g, o8 = some g → o4 ≠ some g ∧ o5 ≠ some g
section
variable {r : Rw} {w : World} {A : Array Value} {v4 v5 : Value} {S W : Nat → Int} {o4 o5 : Option Nat} {wi : World} {k7 k8 : Nat} {v7 v8 : Value} {o7 o8 : Option Nat}
theorem InM.mono {w' : World} (h : InM r w A v4 v5 S W o4 o5 wi k7 k8 v7 v8 o7 o8) (hb : Below wi.heap.size wi w') : InM r w A v4 v5 S W o4 o5 w' k7 k8 v7 v8 o7 o8 :=
  ⟨h.bel.trans (hb.mono h.bel.size), h.box.mono hb (Nat.le_refl _), h.q4.mono hb (Nat.le_refl _), h.q5.mono hb (Nat.le_refl _), h.q7.mono hb (Nat.le_refl _), h.q8.mono hb (Nat.le_refl _), h.l4, h.l5, h.l7, h.l8, h.s7, h.s8⟩
theorem InM.app7 (h : InM r w A v4 v5 S W o4 o5 wi k7 k8 v7 v8 o7 o8) {w2 : World} {v7' : Value} {o7' : Option Nat} (hq : QAt w2 v7' (k7 + 1) (wantF r S) o7') (ho : o7' = o7 ∨ ∃ g, o7' = some g ∧ wi.heap.size ≤ g) (hg : wi.grownBy w2 o7) :
    InM r w A v4 v5 S W o4 o5 w2 (k7 + 1) k8 v7' v8 o7' o8 := by
  obtain ⟨m1, m2, m3, m4, m5, m6, l4, l5, l7, l8, s7, s8⟩ := h
  have hb : w.heap.size < wi.heap.size := m2.lt
  refine ⟨m1.trans (Below.of_grown hg (Nat.le_of_lt hb) fun g e => Nat.le_of_lt (l7 g e)), m2.grown hg (fun e => by have := l7 _ e; omega), m3.grown hg fun g e e' => (s7 g e').1 e, m4.grown hg fun g e e' => (s7 g e').2.1 e, hq, m6.grown hg fun g e e' => (s7 g e').2.2 e, l4, l5, fun g e => ?_, l8, fun g e => ?_, s8⟩
  · rcases ho with rfl | ⟨g', rfl, hge⟩
    · exact l7 g e
    · simp only [Option.some.injEq] at e
      omega
  · rcases ho with rfl | ⟨g', rfl, hge⟩
    · exact s7 g e
    · simp only [Option.some.injEq] at e
      subst e
      exact ⟨fun e => by subst e; have := m3.lt; omega, fun e => by subst e; have := m4.lt; omega, fun e => by subst e; have := m6.lt; omega⟩
theorem InM.app8 (h : InM r w A v4 v5 S W o4 o5 wi k7 k8 v7 v8 o7 o8) {w2 : World} {v8' : Value} {o8' : Option Nat} (hq : QAt w2 v8' (k8 + 1) (showF r S) o8') (ho : o8' = o8 ∨ ∃ g, o8' = some g ∧ wi.heap.size ≤ g) (hg : wi.grownBy w2 o8) :
    InM r w A v4 v5 S W o4 o5 w2 k7 (k8 + 1) v7 v8' o7 o8' := by
  obtain ⟨m1, m2, m3, m4, m5, m6, l4, l5, l7, l8, s7, s8⟩ := h
  have hb : w.heap.size < wi.heap.size := m2.lt
  refine ⟨m1.trans (Below.of_grown hg (Nat.le_of_lt hb) fun g e => Nat.le_of_lt (l8 g e)), m2.grown hg (fun e => by have := l8 _ e; omega), m3.grown hg fun g e e' => (s8 g e').1 e, m4.grown hg fun g e e' => (s8 g e').2 e, m5.grown hg fun g e e' => (s7 g e).2.2 e', hq, l4, l5, l7, fun g e => ?_, fun g e => ⟨(s7 g e).1, (s7 g e).2.1, fun e' => ?_⟩, fun g e => ?_⟩
  · rcases ho with rfl | ⟨g', rfl, hge⟩
    · exact l8 g e
    · simp only [Option.some.injEq] at e
      omega
  · rcases ho with rfl | ⟨g', rfl, hge⟩
    · exact (s7 g e).2.2 e'
    · simp only [Option.some.injEq] at e'
      subst e
      have := m5.lt
      omega
  · rcases ho with rfl | ⟨g', rfl, hge⟩
    · exact s8 g e
    · simp only [Option.some.injEq] at e
      subst e
      exact ⟨fun e => by subst e; have := m3.lt; omega, fun e => by subst e; have := m4.lt; omega⟩
end
theorem src1 (w : World) (x : Int) (G : Nat → Int) (hG : G 0 = x) : SrcAt (w.alloc (.cells #[.int .i64 x] 3)) (some ⟨w.heap.size, 0, none⟩) 1 1 G := by
  refine .inr ⟨w.heap.size, 0, rfl, fun j hj => ?_⟩
  obtain rfl : j = 0 := by omega
  rw [(Box.new w 3 #[.int .i64 x]).cell, hG]
  rfl

end Go.Proofs.Ytflomaagenjfpaa
