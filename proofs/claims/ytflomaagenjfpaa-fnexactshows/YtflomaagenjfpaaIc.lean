import Derived.Test.YtflomaagenjfpaaIq
namespace Go.Proofs.Ytflomaagenjfpaa
open Go.RowKit

theorem infoInts : (Try.prog.info? 22).map (fun i => (i.zero, i.size, i.bytes)) = some (some (.slice none 0 0), 1, 24) := by kernel_rfl
/-- those of the first k whose next one is i -/
def bhL (X : Nat → Int) : Nat → Nat → List Int
  | 0, _ => []
  | k + 1, i => if X k = (i : Int) then bhL X k i ++ [(k : Int)] else bhL X k i
theorem bhL_mem (X : Nat → Int) (i : Nat) (x : Int) : ∀ k, x ∈ bhL X k i ↔ ∃ j : Nat, j < k ∧ X j = (i : Int) ∧ x = (j : Int)
  | 0 => by simp [bhL]
  | k + 1 => by
    have ih := bhL_mem X i x k
    unfold bhL
    split
    · rename_i hk
      rw [List.mem_append, ih, List.mem_singleton]
      constructor
      · rintro (⟨j, h1, h2, h3⟩ | rfl)
        · exact ⟨j, by omega, h2, h3⟩
        · exact ⟨k, by omega, hk, rfl⟩
      · rintro ⟨j, h1, h2, h3⟩
        by_cases e : j = k
        · subst e
          exact .inr h3
        · exact .inl ⟨j, by omega, h2, h3⟩
    · rename_i hk
      rw [ih]
      constructor
      · rintro ⟨j, h1, h2, h3⟩
        exact ⟨j, by omega, h2, h3⟩
      · rintro ⟨j, h1, h2, h3⟩
        by_cases e : j = k
        · subst e
          exact absurd h2 hk
        · exact ⟨j, by omega, h2, h3⟩
theorem bhL_len (X : Nat → Int) (i : Nat) : ∀ k, (bhL X k i).length ≤ k
  | 0 => Nat.le_refl _
  | k + 1 => by
    have := bhL_len X i k
    unfold bhL
    split
    · rw [List.length_append, List.length_singleton]
      omega
    · omega
theorem bhL_yes {X : Nat → Int} {k t : Nat} (h : X k = (t : Int)) : bhL X (k + 1) t = bhL X k t ++ [(k : Int)] := by simp [bhL, h]
theorem bhL_no {X : Nat → Int} {k i : Nat} (h : X k ≠ (i : Int)) : bhL X (k + 1) i = bhL X k i := by simp [bhL, h]
/-- for each signal those behind it, of the first k -/
def BhAt (w : World) (bb n : Nat) (X : Nat → Int) (k : Nat) (og : Nat → Option Nat) : Prop :=
  ∃ vs : Array Value, Box w bb 22 vs ∧ vs.size = n ∧ (∀ i, i < n → ∃ v, vs[i]? = some v ∧ QL w v (bhL X k i) (og i)) ∧ (∀ i, i < n → ∀ g, og i = some g → bb < g) ∧ ∀ i, i < n → ∀ j, j < n → ∀ g, og i = some g → og j = some g → i = j
theorem BhAt.keep {w w' : World} {bb n : Nat} {X : Nat → Int} {k : Nat} {og : Nat → Option Nat} (h : BhAt w bb n X k og) (hs : w.heap.size ≤ w'.heap.size) (hk : ∀ g, bb ≤ g → g < w.heap.size → w'.heap[g]? = w.heap[g]?) : BhAt w' bb n X k og := by
  obtain ⟨vs, h1, h2, h3, h4, h5⟩ := h
  refine ⟨vs, h1.keep (hk bb (Nat.le_refl _) h1.lt), h2, fun i hi => ?_, h4, h5⟩
  obtain ⟨v, e1, e2⟩ := h3 i hi
  exact ⟨v, e1, QAt.keep e2 hs fun g hg => hk g (Nat.le_of_lt (h4 i hi g hg)) (by rw [hg] at e2; exact e2.lt)⟩
theorem BhAt.mono {w w' : World} {bb n : Nat} {X : Nat → Int} {k : Nat} {og : Nat → Option Nat} {B : Nat} (h : BhAt w bb n X k og) (hb : Below B w w') (hB : w.heap.size ≤ B) : BhAt w' bb n X k og := h.keep hb.size fun g _ hg => hb.block g (by omega)
theorem BhAt.skip {w : World} {bb n : Nat} {X : Nat → Int} {k : Nat} {og : Nat → Option Nat} (h : BhAt w bb n X k og) (hX : X k = -1) : BhAt w bb n X (k + 1) og := by
  obtain ⟨vs, h1, h2, h3, h4, h5⟩ := h
  refine ⟨vs, h1, h2, fun i hi => ?_, h4, h5⟩
  rw [bhL_no (by omega)]
  exact h3 i hi
theorem BhAt.app {w : World} {bb n : Nat} {X : Nat → Int} {k : Nat} {og : Nat → Option Nat} (h : BhAt w bb n X k og) {t : Nat} (ht : t < n) (hX : X k = (t : Int)) {w2 : World} {v2 : Value} {o2 : Option Nat} (hq : QL w2 v2 (bhL X k t ++ [(k : Int)]) o2) (ho : o2 = og t ∨ ∃ g, o2 = some g ∧ w.heap.size ≤ g) (hg : w.grownBy w2 (og t)) :
    BhAt (w2.setCell ⟨bb, t, none⟩ v2) bb n X (k + 1) (fun i => if i = t then o2 else og i) := by
  obtain ⟨vs, h1, h2, h3, h4, h5⟩ := h
  have hb2 : Box w2 bb 22 vs := h1.grown hg fun e => by have := h4 t ht _ e; omega
  have hlt := h1.lt
  have ho2 : ∀ g, o2 = some g → bb < g := fun g e => by
    rcases ho with rfl | ⟨g', rfl, hge⟩
    · exact h4 t ht g e
    · simp only [Option.some.injEq] at e
      omega
  refine ⟨_, hb2.set t v2, by simpa using h2, fun i hi => ?_, fun i hi g e => ?_, fun i hi j hj g e1 e2 => ?_⟩
  · by_cases e : i = t
    · subst e
      simp only [if_true]
      refine ⟨v2, by simp [Array.getElem?_setIfInBounds]; omega, ?_⟩
      rw [bhL_yes hX]
      exact QAt.other hq (fun g e e' => by have h1 := ho2 g e; have h2 : g = bb := e'; omega) _
    · simp only [e, if_false]
      obtain ⟨v, e1, e2⟩ := h3 i hi
      refine ⟨v, by rw [Array.getElem?_setIfInBounds_ne (Ne.symm e)]; exact e1, ?_⟩
      rw [bhL_no (by omega)]
      refine QAt.other (QAt.grown e2 hg fun g eg er => e (h5 i hi t ht g eg er)) (fun g eg e' => ?_) _
      have h1 := h4 i hi g eg
      have h2 : g = bb := e'
      omega
  · by_cases e' : i = t
    · subst e'
      simp only [if_true] at e
      exact ho2 g e
    · simp only [e', if_false] at e
      exact h4 i hi g e
  · have hold : ∀ i, i < n → i ≠ t → og i = some g → o2 = some g → False := fun i hi hne e e' => by
      rcases ho with rfl | ⟨g', rfl, hge⟩
      · exact hne (h5 i hi t ht g e e')
      · simp only [Option.some.injEq] at e'
        obtain ⟨v, _, e2⟩ := h3 i hi
        rw [e] at e2
        have := QAt.lt e2
        omega
    by_cases c1 : i = t
    · by_cases c2 : j = t
      · omega
      · simp only [c1, if_true] at e1
        simp only [c2, if_false] at e2
        exact (hold j hj c2 e2 e1).elim
    · simp only [c1, if_false] at e1
      by_cases c2 : j = t
      · simp only [c2, if_true] at e2
        exact (hold i hi c1 e1 e2).elim
      · simp only [c2, if_false] at e2
        exact h5 i hi j hj g e1 e2
theorem mk0_slice (n : Nat) : ∀ i, i < n → (mk0 (.slice none 0 0) n)[i]? = some (.slice none 0 0) := fun i hi => by
  simp [mk0, madeCells, Value.cells, hi, Nat.mod_one]
theorem BhAt.new (w : World) (n : Nat) (X : Nat → Int) : BhAt (w.alloc (.cells (mk0 (.slice none 0 0) n) 22)) w.heap.size n X 0 (fun _ => none) := by
  refine ⟨_, Box.new w 22 _, size_madeCells _ _, fun i hi => ⟨_, mk0_slice n i hi, QAt.nil _ _⟩, fun i hi g e => (nomatch e), fun i hi j hj g e => (nomatch e)⟩
theorem src1L (w : World) (x : Int) : SrcAt (w.alloc (.cells #[.int .i64 x] 3)) (some ⟨w.heap.size, 0, none⟩) 1 1 (fun j => [x].getD j 0) := src1 w x _ rfl

/-- what behindOf answers -/
def BhR (w : World) (n : Nat) (X : Nat → Int) (e : Ending) (w' : World) : Prop := ∃ og, e = .returned (.slice (some ⟨w.heap.size, 0, none⟩) n n) ∧ BhAt w' w.heap.size n X n og ∧ Below w.heap.size w w'

set_option maxRecDepth 100000 in
set_option maxHeartbeats 4000000 in
theorem behind37 (xa : Option Addr) (n xc : Nat) (X : Nat → Int) (w : World) (hn : n ≤ 60) (hX : ∀ i, i < n → -1 ≤ X i ∧ X i < n) (h : VsAt 1 0 w xa n (oneF X)) :
    Calls Try.prog 37 #[.slice xa n xc] w fun e w' => BhR w n X e w' := by
  have hmk := make_rows (P := Try.prog) 54 22 _ 24 1 Try.underlying54 infoInts n (by omega) (by omega)
  simp only [Nat.mul_one] at hmk
  have H : Hid (VsAt 1 0 w xa n (oneF X)) := h
  have HX : Hid (∀ i, i < n → -1 ≤ X i ∧ X i < n) := hX
  have M0 : Hid (BhAt (w.alloc (.cells (mk0 (.slice none 0 0) n) 22)) w.heap.size n X 0 (fun _ => none) ∧ Below w.heap.size w (w.alloc (.cells (mk0 (.slice none 0 0) n) 22))) := ⟨BhAt.new w n X, bel1 _ _⟩
  clear h hX
  go_enter Try.func37, Try.ntmps37
  go_wp2_with fail
  clear hmk
  go_loopw [11] (fun i wr => ∃ (k : Nat) (og : Nat → Option Nat), k ≤ n ∧ i = .int .i64 k ∧ Hid (BhAt wr w.heap.size n X k og ∧ Below w.heap.size w wr)) (fun i _ => n - (intOf i).toNat)
  case atStart => exact ⟨0, _, Nat.zero_le _, rfl, M0⟩
  case round =>
    obtain ⟨k, og, hk, rfl, M⟩ := hrel
    clear M0
    by_cases hlt : k < n
    · obtain ⟨b, off, hxa, _, hb, hc⟩ := (H.out.mono (Nat.le_refl _) M.out.2 (Nat.le_refl _)) (by omega)
      subst hxa
      have c0 : wr.cell? ⟨b, off + k, none⟩ = some (.int .i64 (X k)) := by have := hc k hlt 0 (by omega); rwa [Nat.mul_one] at this
      have hk0 : (0 : Int) ≤ (k : Int) := by omega
      have hkn : (k : Int) < (n : Int) := by omega
      have hx := HX.out k hlt
      clear hc
      by_cases hm : X k = -1
      · have M2 : Hid (BhAt wr w.heap.size n X (k + 1) og ∧ Below w.heap.size w wr) := ⟨M.out.1.skip hm, M.out.2⟩
        rw [hm] at c0
        clear hm hx M
        go_wp2_with fail
        go_roundw
        case rel => exact ⟨k + 1, og, by omega, by go_num, M2⟩
        case measure => simp [intOf]; omega
      · obtain ⟨t, ht⟩ : ∃ t : Nat, X k = (t : Int) := ⟨(X k).toNat, by omega⟩
        have htn : t < n := by omega
        have HT : Hid (X k = (t : Int)) := ht
        rw [ht] at c0
        have ht0 : (0 : Int) ≤ (t : Int) := by omega
        have htn' : (t : Int) < (n : Int) := by omega
        have hne : ((t : Int) != -1) = true := by simp
        obtain ⟨vs, k1, k2, k3, k4, k5⟩ := M.out.1
        obtain ⟨v, e1, e2⟩ := k3 t htn
        obtain ⟨a, c, hv⟩ := QAt.val e2
        subst hv
        have d0 : wr.cell? ⟨w.heap.size, t, none⟩ = some (.slice a (bhL X k t).length c) := by rw [k1.cell, e1]
        have HQ : Hid (QL wr (.slice a (bhL X k t).length c) (bhL X k t) (og t)) := e2
        have hlen := bhL_len X t k
        obtain ⟨m, hm'⟩ : ∃ m, Hid ((bhL X k t).length = m) := ⟨_, rfl⟩
        rw [hm'.out] at d0 HQ hlen
        have hlen2 : m + 1 ≤ 1000000 := by omega
        clear k1 k2 k3 k4 k5 e1 e2 hm hx ht hlen
        have HQ2 : Hid (∀ o, QAt (wr.alloc o) (.slice a m c) m (fun j => (bhL X k t).getD j 0) (og t)) := fun o => by
          have := QAt.alloc HQ.out o
          rwa [hm'.out] at this
        go_wp2_with (at_builtin; go_must (refine wpList_qapp _ rfl _ _ rfl (.slice a m c) m (fun j => (bhL X k t).getD j 0) (og t) rfl (HQ2.out _) (some ⟨wr.heap.size, 0, none⟩) 1 1 _ rfl (src1 wr _ (fun _ => _) rfl) hlen2 (Halt.mk ?_)))
        intro v2 w2 o2 q2 ho2 hg2
        have hq2 : QL w2 v2 (bhL X k t ++ [(k : Int)]) o2 := by
          have := q2 (fun j => (bhL X k t ++ [(k : Int)]).getD j 0) (fun j hj => getD_app_left (by rw [hm'.out]; exact hj)) (by have := getD_app_right (L := bhL X k t) (M := [(k : Int)]) (j := 0); rw [hm'.out, Nat.add_zero] at this; exact this)
          show QAt w2 v2 (bhL X k t ++ [(k : Int)]).length _ o2
          rw [List.length_append, hm'.out]
          exact this
        have hst := (M.out.1.mono (bel1 wr (.cells #[.int .i64 k] 3)) (Nat.le_refl _)).app htn HT.out hq2 (by simpa using ho2) hg2
        obtain ⟨a2, c2, hv2⟩ := QAt.val hq2
        subst hv2
        rw [List.length_append, hm'.out] at hst
        obtain ⟨vs, k1, k2, _, k4, _⟩ := M.out.1
        have kb : Box w2 w.heap.size 22 vs := (k1.alloc (.cells #[.int .i64 k] 3)).grown hg2 fun e => by have := k4 t htn _ e; omega
        obtain ⟨u, d1⟩ : ∃ u, w2.cell? ⟨w.heap.size, t, none⟩ = some u := ⟨vs[t]'(by omega), by rw [kb.cell]; exact Array.getElem?_eq_getElem _⟩
        have d2 := kb.free t
        have HB : Hid (Below w.heap.size w w2) := (M.out.2.alloc M.out.2.size _).trans (Below.of_grown hg2 (by simp; have := M.out.2.size; omega) fun g e => Nat.le_of_lt (k4 t htn g e))
        have M2 : Hid (BhAt (w2.setCell ⟨w.heap.size, t, none⟩ (.slice a2 (m + 1) c2)) w.heap.size n X (k + 1) (fun i => if i = t then o2 else og i) ∧ Below w.heap.size w (w2.setCell ⟨w.heap.size, t, none⟩ (.slice a2 (m + 1) c2))) := ⟨hst, HB.out.setCell (Nat.le_refl _) _⟩
        have hl2 : (bhL X k t ++ [(k : Int)]).length = m + 1 := by rw [List.length_append, hm'.out]; rfl
        rw [hl2]
        clear q2 hq2 ho2 hg2 hst k1 k2 k4 kb M HQ HQ2 d0 hl2 HB
        go_wp2_with fail
        go_roundw
        case rel => exact ⟨k + 1, _, by omega, by go_num, M2⟩
        case measure => simp [intOf]; omega
    · have hge : ¬ ((k : Int) < (n : Int)) := by omega
      have hkn : k = n := by omega
      have HR : Hid (BhR w n X (.returned (.slice (some ⟨w.heap.size, 0, none⟩) n n)) wr) := ⟨og, rfl, by rw [← hkn]; rw [hkn]; have := M.out.1; rw [hkn] at this; exact this, M.out.2⟩
      clear M hkn hlt
      go_wp2_with fail
      go_ret
      exact HR.out

end Go.Proofs.Ytflomaagenjfpaa
