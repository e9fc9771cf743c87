import Derived.Test.YtoennemahlakeaaGreatTo
import Derived.Test.YtoennemahlakeaaGreatEq
import Derived.Test.YtoennemahlakeaaGreatImpl
import Derived.Deep.RegionWith
namespace Go.Proofs.YtoennemahlakeaaGreat
open Go.RowKit

theorem firstB_some {p : Nat → Bool} {n k : Nat} (h : firstB p n = none) (hk : k < n) : p k = false := by
  induction n with
  | zero => omega
  | succ n ih =>
    simp only [firstB] at h
    cases h1 : firstB p n with
    | some i => rw [h1] at h; simp at h
    | none =>
      rw [h1] at h
      by_cases e : k = n
      · subst e
        cases hp : p k with
        | false => rfl
        | true => simp [hp] at h
      · exact ih h1 (by omega)
theorem netF_zero {n : Nat} {P : Nat → Pc} {m : Nat} {J : Nat → Jt} (h : (netF n P m J).1 = 0) : netF n P m J = (0, 0) ∧ ∀ i, i < n → 1 ≤ (P i).ln ∧ (P i).ln ≤ 10000000 := by
  unfold netF at h ⊢
  by_cases h0 : n = 0 ∨ 100 < n ∨ 120 < m
  · rw [if_pos h0] at h; simp at h
  · rw [if_neg h0] at h ⊢
    unfold stage2 at h ⊢
    cases h2 : firstB (pieceBad P) n with
    | some i => rw [h2] at h; simp at h
    | none =>
      rw [h2] at h
      simp only at h ⊢
      refine ⟨?_, fun i hi => ?_⟩
      · unfold stage3 at h ⊢
        cases h3 : firstB (fun j => endsBad n (J j)) m with
        | some i => rw [h3] at h; simp at h
        | none =>
          rw [h3] at h
          simp only at h ⊢
          unfold stage4 at h ⊢
          cases h4 : firstB (nameBad J) m with
          | some i => rw [h4] at h; simp at h
          | none =>
            rw [h4] at h
            simp only at h ⊢
            unfold stage5 at h ⊢
            cases h5 : firstB (looseBad J m) n with
            | some i => rw [h5] at h; simp at h
            | none => rfl
      · have := firstB_some h2 hi
        simp only [pieceBad, Bool.or_eq_false_iff, Bool.not_eq_eq_eq_not, Bool.not_false, inB, Bool.and_eq_true, decide_eq_true_eq] at this
        exact this.1.1.1.2
def IsAt (C : Nat) (w : World) (a : Option Addr) (n : Nat) (D : Nat → Int) : Prop :=
  0 < n → ∃ b off, a = some ⟨b, off, none⟩ ∧ C ≤ b ∧ b < w.heap.size ∧ ∀ i, i < n → w.cell? ⟨b, off + i, none⟩ = some (.int .i64 (D i))
theorem IsAt.keep {C C' : Nat} {w w' : World} {a : Option Addr} {n : Nat} {D : Nat → Int} (h : IsAt C w a n D) (hC : C' ≤ C) (hs : w.heap.size ≤ w'.heap.size)
    (hk : ∀ b, C ≤ b → b < w.heap.size → w'.heap[b]? = w.heap[b]?) : IsAt C' w' a n D := by
  intro h0
  obtain ⟨b, off, ha, hge, hlt, hc⟩ := h h0
  exact ⟨b, off, ha, by omega, by omega, fun i hi => (World.cell?_of_block (w := w) (hk b hge hlt)).trans (hc i hi)⟩
theorem IsAt.mono {C C' : Nat} {w w' : World} {a : Option Addr} {n : Nat} {D : Nat → Int} {B : Nat} (h : IsAt C w a n D) (hC : C' ≤ C) (hb : Below B w w') (hB : w.heap.size ≤ B) : IsAt C' w' a n D :=
  h.keep hC hb.size fun b _ hlt => hb.block b (by omega)
def IsTo (wr : World) (B n k : Nat) (D : Nat → Int) : Prop := ∃ f, wr.rowIs B 3 n f ∧ ∀ j, j < k → f j = .int .i64 (D j)
theorem IsTo.step {w : World} {B n k : Nat} {D : Nat → Int} (h : IsTo w B n k D) : IsTo (w.setCell ⟨B, k, none⟩ (.int .i64 (D k))) B n (k + 1) D := by
  obtain ⟨f, hr, hf⟩ := h
  refine ⟨_, hr.set _ _, fun j hj => ?_⟩
  by_cases e : j = k
  · subst e
    simp
  · simp only [e, if_false]
    exact hf j (by omega)
theorem IsTo.at {w : World} {B n : Nat} {D : Nat → Int} (h : IsTo w B n n D) : IsAt B w (some ⟨B, 0, none⟩) n D := by
  obtain ⟨f, hr, hf⟩ := h
  intro _
  refine ⟨B, 0, rfl, Nat.le_refl _, hr.lt, fun i hi => ?_⟩
  rw [Nat.zero_add, ← hf i hi]
  exact hr.cell (by omega)
theorem info3i : (Tryz.prog.info? 3).map (fun i => (i.zero, i.size, i.bytes)) = some (some (.int .i64 0), 1, 8) := by kernel_rfl
theorem l22in53 (x a b : Int) (w : World) :
    Calls Tryz.prog 78 #[.int .i64 x, .int .i64 a, .int .i64 b] w fun e w' => e = .returned (.bool (inB x a b)) ∧ w' = w := by
  by_cases h1 : a ≤ x
  · by_cases h2 : x ≤ b
    · go_enter Tryz.func78, Tryz.ntmps78
      go_wp2
      go_ret
      exact ⟨by simp [inB, h1, h2], rfl⟩
    · go_enter Tryz.func78, Tryz.ntmps78
      go_wp2
      go_ret
      exact ⟨by simp [inB, h1, h2], rfl⟩
  · go_enter Tryz.func78, Tryz.ntmps78
    go_wp2
    go_ret
    exact ⟨by simp [inB]; omega, rfl⟩
def mostL (k : Int) : Int := if k = 3 then 2 else 0
def lieB (J : Nat → Jt) (L : Nat → Int) (i : Nat) : Bool := inB (L i) 0 (mostL (J i).kd)
def allL (p : Nat → Bool) : Nat → Bool
  | 0 => true
  | k + 1 => allL p k && p k
theorem allL_yes {p : Nat → Bool} {n : Nat} (h : ∀ q, q < n → p q = true) : allL p n = true := by
  induction n with
  | zero => rfl
  | succ n ih => simp [allL, ih (fun q hq => h q (by omega)), h n (by omega)]
theorem allL_no {p : Nat → Bool} {n k : Nat} (hk : k < n) (h : p k = false) : allL p n = false := by
  induction n with
  | zero => omega
  | succ n ih =>
    by_cases e : k = n
    · subst e
      simp [allL, h]
    · simp [allL, ih (by omega)]
def liesB (m : Nat) (J : Nat → Jt) (nl : Nat) (L : Nat → Int) : Bool := decide (nl = m) && allL (lieB J L) m
def liesF (n : Nat) (P : Nat → Pc) (m : Nat) (J : Nat → Jt) (nl : Nat) (L : Nat → Int) : Bool := decide ((netF n P m J).1 = 0) && liesB m J nl L
theorem boxN {w wr : World} {pa ja : Option Addr} {n pc m jc : Nat} (h : Below (w.heap.size + 1) (w.alloc (.cells #[.slice pa n pc, .slice ja m jc] 38)) wr) :
    wr.cell? ⟨w.heap.size, 0, none⟩ = some (.slice pa n pc) ∧ wr.cell? ⟨w.heap.size, 1, none⟩ = some (.slice ja m jc) ∧ w.heap.size < wr.heap.size ∧ Below w.heap.size w wr := by
  refine ⟨?_, ?_, ?_, (bel1 w _).trans (h.mono (by simp))⟩
  · rw [h.cell (p := ⟨w.heap.size, 0, none⟩) (by simp)]
    simp
  · rw [h.cell (p := ⟨w.heap.size, 1, none⟩) (by simp)]
    simp
  · have := h.size
    simp at this
    omega
theorem l22ok26 (pa : Option Addr) (n pc : Nat) (P : Nat → Pc) (ja : Option Addr) (m jc : Nat) (J : Nat → Jt) (w : World) (hn : n ≤ 1048576) (hm : m ≤ 1048576) (hP : PsAt 0 w pa n P) (hJ : JsAt 0 w ja m J) (hps : ∀ i, i < n → (P i).nm.size ≤ maxLen) (hjs : ∀ i, i < m → (J i).ne ≤ 1048576 ∧ (J i).nm.size ≤ maxLen) :
    Calls Tryz.prog 47 #[.agg #[.slice pa n pc, .slice ja m jc]] w fun e w' => e = .returned (.bool (decide ((netF n P m J).1 = 0))) ∧ Below w.heap.size w w' := by
  have Hps : Hid (∀ i, i < n → (P i).nm.size ≤ maxLen) := hps
  have Hjs : Hid (∀ i, i < m → (J i).ne ≤ 1048576 ∧ (J i).nm.size ≤ maxLen) := hjs
  clear hps hjs
  go_enter Tryz.func47, Tryz.ntmps47
  go_wp2_with fail
  refine (spec6 pa n pc P ja m jc J _ hn hm (hP.mono (Nat.le_refl _) (bel1 w _) (Nat.le_refl _)) (hJ.mono (Nat.le_refl _) (bel1 w _) (Nat.le_refl _)) Hps.out Hjs.out).mono ?_
  rintro e w1 ⟨rfl, hb1⟩
  have B1 := (bel1 w (.cells #[.slice pa n pc, .slice ja m jc] 38)).trans (hb1.mono (by simp))
  clear hb1
  go_wp2
  go_ret
  exact ⟨rfl, B1.alloc B1.size _⟩

end Go.Proofs.YtoennemahlakeaaGreat
