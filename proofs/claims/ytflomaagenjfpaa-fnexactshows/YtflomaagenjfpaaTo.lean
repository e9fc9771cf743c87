import Derived.Test.YtflomaagenjfpaaMd
namespace Go.Proofs.Ytflomaagenjfpaa
open Go.RowKit

set_option maxHeartbeats 1000000 in
theorem toBoolS (a : Option Addr) (n cap : Nat) (D : Nat → Bool) (w : World) (hn : n ≤ 1048576) (hE : VsAt 1 0 w a n (boolF D)) :
    Calls Try.prog 24 #[.slice a n cap] w fun e w' => ∃ b, b = w.heap.size ∧ e = .returned (.slice (some ⟨b, 0, none⟩) n n) ∧ VOwn b 4 1 w' (.slice (some ⟨b, 0, none⟩) n n) n (boolF D) ∧ Below w.heap.size w w' := by
  have hmk := make_rows (P := Try.prog) 23 4 _ 1 1 Try.underlying23 infoBool n (by omega) (by omega)
  have hf0 := VTo.new 1 4 w (.bool false) n (boolF D)
  go_enter Try.func24, Try.ntmps24
  go_wp2_with fail
  go_loopw [4] (fun i wr => ∃ (k : Nat), k ≤ n ∧ i = .int .i64 k ∧ VTo 1 4 wr w.heap.size n (k) (boolF D) ∧ Below w.heap.size w wr) (fun i _ => n - (intOf i).toNat)
  case atStart => exact ⟨0, Nat.zero_le _, rfl, by first | exact hf0 | simpa only [Nat.mul_one] using hf0, bel1 _ _⟩
  case round =>
    obtain ⟨k, hk, rfl, hto, hbel⟩ := hrel
    clear hf0 hmk
    by_cases hlt : k < n
    · obtain ⟨b, off, rfl, _, hb, hc⟩ := (hE.mono (Nat.le_refl _) hbel (Nat.le_refl _)) (by omega)
      have c0 : wr.cell? ⟨b, off + k, none⟩ = some (.bool (D k)) := by have := hc k hlt 0 (by omega); rwa [Nat.mul_one] at this
      clear hc
      have hto1 : VTo 1 4 wr w.heap.size n (k) (boolF D) := hto
      have hbel1 := hbel
      have hR := (hto1.step (x := .bool (D k)) (by rw [show k / 1 = k by omega] <;> rfl))
      obtain ⟨f, hr1, _⟩ := hto1
      have d0 := hr1.cell (i := k) (by omega)
      have e0 := hr1.frozen (k)
      clear  hto hr1
      go_wp2_with fail
      go_roundw
      case rel => exact ⟨k + 1, by omega, by go_num, by exact hR, (hbel1.setCell (Nat.le_refl _) _)⟩
      case measure => simp [intOf]; omega
    · obtain rfl : k = n := by omega
      go_wp2
      go_ret
      exact ⟨_, rfl, rfl, VTo.own (by simpa using hto) (by simp [maxLen]; omega), hbel⟩

set_option maxHeartbeats 1000000 in
theorem toIntS (a : Option Addr) (n cap : Nat) (D : Nat → Int) (w : World) (hn : n ≤ 1048576) (hE : VsAt 1 0 w a n (oneF D)) :
    Calls Try.prog 23 #[.slice a n cap] w fun e w' => ∃ b, b = w.heap.size ∧ e = .returned (.slice (some ⟨b, 0, none⟩) n n) ∧ VOwn b 3 1 w' (.slice (some ⟨b, 0, none⟩) n n) n (oneF D) ∧ Below w.heap.size w w' := by
  have hmk := make_rows (P := Try.prog) 22 3 _ 8 1 Try.underlying22 infoInt n (by omega) (by omega)
  have hf0 := VTo.new 1 3 w (.int .i64 0) n (oneF D)
  go_enter Try.func23, Try.ntmps23
  go_wp2_with fail
  go_loopw [4] (fun i wr => ∃ (k : Nat), k ≤ n ∧ i = .int .i64 k ∧ VTo 1 3 wr w.heap.size n (k) (oneF D) ∧ Below w.heap.size w wr) (fun i _ => n - (intOf i).toNat)
  case atStart => exact ⟨0, Nat.zero_le _, rfl, by first | exact hf0 | simpa only [Nat.mul_one] using hf0, bel1 _ _⟩
  case round =>
    obtain ⟨k, hk, rfl, hto, hbel⟩ := hrel
    clear hf0 hmk
    by_cases hlt : k < n
    · obtain ⟨b, off, rfl, _, hb, hc⟩ := (hE.mono (Nat.le_refl _) hbel (Nat.le_refl _)) (by omega)
      have c0 : wr.cell? ⟨b, off + k, none⟩ = some (.int .i64 (D k)) := by have := hc k hlt 0 (by omega); rwa [Nat.mul_one] at this
      clear hc
      have hto1 : VTo 1 3 wr w.heap.size n (k) (oneF D) := hto
      have hbel1 := hbel
      have hR := (hto1.step (x := .int .i64 (D k)) (by rw [show k / 1 = k by omega] <;> rfl))
      obtain ⟨f, hr1, _⟩ := hto1
      have d0 := hr1.cell (i := k) (by omega)
      have e0 := hr1.frozen (k)
      clear  hto hr1
      go_wp2_with fail
      go_roundw
      case rel => exact ⟨k + 1, by omega, by go_num, by exact hR, (hbel1.setCell (Nat.le_refl _) _)⟩
      case measure => simp [intOf]; omega
    · obtain rfl : k = n := by omega
      go_wp2
      go_ret
      exact ⟨_, rfl, rfl, VTo.own (by simpa using hto) (by simp [maxLen]; omega), hbel⟩

/-- rows of truths of one's own: each in a block of its own, the blocks in a row -/
def BsOwn (w : World) (b n k : Nat) (K : Nat → Nat) (T : Nat → Nat → Bool) (r : Nat → Nat) : Prop :=
  ∃ vs : Array Value, Box w b 23 vs ∧ vs.size = n ∧ ∀ i, i < k → vs[i]? = some (.slice (some ⟨r i, 0, none⟩) (K i) (K i)) ∧ VOwn (r i) 4 1 w (.slice (some ⟨r i, 0, none⟩) (K i) (K i)) (K i) (boolF (T i)) ∧ b < r i ∧ ∀ j, j < i → r j < r i

theorem BsOwn.mono {w w' : World} {b n k N : Nat} {K : Nat → Nat} {T : Nat → Nat → Bool} {r : Nat → Nat} (h : BsOwn w b n k K T r) (hb : Below N w w') (hN : w.heap.size ≤ N) : BsOwn w' b n k K T r := by
  obtain ⟨vs, h1, h2, h3⟩ := h
  refine ⟨vs, h1.mono hb hN, h2, fun i hi => ?_⟩
  obtain ⟨e1, e2, e3⟩ := h3 i hi
  exact ⟨e1, e2.mono (Nat.le_refl _) hb hN, e3⟩

theorem BsOwn.at {w : World} {b n C : Nat} {K : Nat → Nat} {T : Nat → Nat → Bool} {r : Nat → Nat} (h : BsOwn w b n n K T r) (hC : C ≤ b) : BsAt C w (some ⟨b, 0, none⟩) n K T := by
  obtain ⟨vs, h1, h2, h3⟩ := h
  intro _
  refine ⟨b, 0, rfl, hC, h1.lt, fun i hi => ?_⟩
  obtain ⟨e1, e2, e3, e4⟩ := h3 i hi
  exact ⟨_, _, by rw [Nat.zero_add, h1.cell, e1], e2.vs.le (by omega)⟩

theorem BsOwn.step {w w1 : World} {b n k : Nat} {K : Nat → Nat} {T : Nat → Nat → Bool} {r : Nat → Nat} {b1 : Nat} (h : BsOwn w b n k K T r) (hk : k < n) (hb : Below w.heap.size w w1) (h1b : b1 = w.heap.size) (ho : VOwn b1 4 1 w1 (.slice (some ⟨b1, 0, none⟩) (K k) (K k)) (K k) (boolF (T k))) (hr : ∀ i, i < k → r i < w.heap.size) :
    BsOwn (w1.setCell ⟨b, k, none⟩ (.slice (some ⟨b1, 0, none⟩) (K k) (K k))) b n (k + 1) K T (fun i => if i < k then r i else b1) := by
  have hbw : b < w.heap.size := by obtain ⟨_, h1, _⟩ := h; exact h1.lt
  obtain ⟨vs, h1, h2, h3⟩ := h.mono hb (Nat.le_refl _)
  have hkeep : ∀ g, g ≠ b → (w1.setCell ⟨b, k, none⟩ (.slice (some ⟨b1, 0, none⟩) (K k) (K k))).heap[g]? = w1.heap[g]? := fun g hg => Below.heap_setCell _ _ _ _ hg
  refine ⟨_, h1.set k _, by simp only [Array.size_setIfInBounds]; exact h2, fun i hi => ?_⟩
  by_cases e : i = k
  · subst e
    simp only [Nat.lt_irrefl, if_false]
    refine ⟨by simp [Array.getElem?_setIfInBounds]; omega, ho.keep (Nat.le_refl _) fun g hg => hkeep g ?_, by omega, fun j hj => ?_⟩
    · simp only [Value.ownBlock, Option.some.injEq] at hg
      omega
    · rw [if_pos hj, h1b]
      exact hr j hj
  · have hik : i < k := by omega
    simp only [hik, if_true]
    obtain ⟨e1, e2, e3, e4⟩ := h3 i hik
    refine ⟨?_, e2.keep (Nat.le_refl _) fun g hg => hkeep g ?_, e3, fun j hj => ?_⟩
    · simp only [Array.getElem?_setIfInBounds, show ¬ k = i by omega, if_false]
      exact e1
    · simp only [Value.ownBlock, Option.some.injEq] at hg
      omega
    · rw [if_pos (by omega)]
      exact e4 j hj

set_option maxRecDepth 100000 in
set_option maxHeartbeats 4000000 in
theorem toBoolSS (a : Option Addr) (n cap : Nat) (K : Nat → Nat) (T : Nat → Nat → Bool) (w : World) (hn : n ≤ 1048576) (hR : BsAt 0 w a n K T) (hs : ∀ i, i < n → K i ≤ 1048576) :
    Calls Try.prog 25 #[.slice a n cap] w fun e w' => ∃ b r, b = w.heap.size ∧ e = .returned (.slice (some ⟨b, 0, none⟩) n n) ∧ BsOwn w' b n n K T r ∧ Below w.heap.size w w' := by
  have HS : Hid (∀ i, i < n → K i ≤ 1048576) := hs
  have hmk := make_rows (P := Try.prog) 24 23 _ 24 1 Try.underlying24 infoRow n (by omega) (by omega)
  have hf0 : BsOwn (w.alloc (.cells (mk0 (.slice none 0 0) (n * 1)) 23)) w.heap.size n 0 K T (fun _ => 0) :=
    ⟨_, Box.new w 23 _, (size_madeCells _ _).trans (Nat.mul_one n), fun i hi => absurd hi (Nat.not_lt_zero _)⟩
  have hf1 : BsOwn (w.alloc (.cells (mk0 (.slice none 0 0) n) 23)) w.heap.size n 0 K T (fun _ => 0) := by simpa only [Nat.mul_one] using hf0
  clear hs hf0
  go_enter Try.func25, Try.ntmps25
  go_wp2_with fail
  go_loopw [4] (fun i wr => ∃ (k : Nat) (r : Nat → Nat), k ≤ n ∧ i = .int .i64 k ∧ Hid (BsOwn wr w.heap.size n k K T r) ∧ Hid (∀ i, i < k → r i < wr.heap.size) ∧ Below w.heap.size w wr) (fun i _ => n - (intOf i).toNat)
  case atStart => exact ⟨0, fun _ => 0, Nat.zero_le _, rfl, hf1, fun i hi => absurd hi (Nat.not_lt_zero _), bel1 _ _⟩
  case round =>
    obtain ⟨k, r, hk, rfl, HT, HR, hbel⟩ := hrel
    clear hf1 hmk
    by_cases hlt : k < n
    · obtain ⟨b, off, rfl, _, hb, hc⟩ := (hR.mono (Nat.le_refl _) hbel (Nat.le_refl _)) (by omega)
      obtain ⟨ra, rc, c0, hin⟩ := hc k hlt
      have HIN : Hid (VsAt 1 0 wr ra (K k) (boolF (T k))) := hin
      clear hc hin
      go_wp2_with fail
      clear c0
      refine (toBoolS ra (K k) rc (T k) _ (HS.out k hlt) HIN.out).mono ?_
      rintro e w1 ⟨b1, h1b, rfl, ho, hb1⟩
      have hst := HT.out.step hlt hb1 h1b ho HR.out
      obtain ⟨vs, h1, h2, _⟩ := HT.out.mono hb1 (Nat.le_refl _)
      obtain ⟨v0, d0⟩ : ∃ v, w1.cell? ⟨w.heap.size, k, none⟩ = some v := ⟨vs[k]'(by omega), by rw [h1.cell]; exact Array.getElem?_eq_getElem _⟩
      have f0 := h1.free k
      have HST : Hid (BsOwn _ w.heap.size n (k + 1) K T (fun i => if i < k then r i else b1)) := hst
      have hz1 : b1 < w1.heap.size := (ho.lt rfl).2
      have HR2 : Hid (∀ i, i < k + 1 → (if i < k then r i else b1) < w1.heap.size) := fun i hi => by
        by_cases e : i < k
        · rw [if_pos e]
          exact Nat.lt_of_lt_of_le (HR.out i e) hb1.size
        · rw [if_neg e]
          exact hz1
      have hbel1 := hbel.trans (hb1.mono hbel.size)
      clear hst h1 h2 HIN HT ho hb1 h1b HR hz1
      go_wp2_with fail
      go_roundw
      case rel => exact ⟨k + 1, _, by omega, by go_num, HST, fun i hi => by rw [size_setc]; exact HR2.out i hi, hbel1.setCell (Nat.le_refl _) _⟩
      case measure => simp [intOf]; omega
    · obtain rfl : k = n := by omega
      go_wp2
      go_ret
      exact ⟨_, r, rfl, rfl, HT.out, hbel⟩

theorem BsOwn.keep {w w' : World} {b n k : Nat} {K : Nat → Nat} {T : Nat → Nat → Bool} {r : Nat → Nat} (h : BsOwn w b n k K T r) (hk : ∀ g, b ≤ g → w'.heap[g]? = w.heap[g]?) : BsOwn w' b n k K T r := by
  obtain ⟨vs, h1, h2, h3⟩ := h
  refine ⟨vs, h1.keep (hk b (Nat.le_refl _)), h2, fun i hi => ?_⟩
  obtain ⟨e1, e2, e3, e4⟩ := h3 i hi
  exact ⟨e1, e2.keep (Nat.le_refl _) fun g hg => hk g (by simp only [Value.ownBlock, Option.some.injEq] at hg; omega), e3, e4⟩

theorem BsOwn.lt {w : World} {b n k : Nat} {K : Nat → Nat} {T : Nat → Nat → Bool} {r : Nat → Nat} (h : BsOwn w b n k K T r) : b < w.heap.size := by
  obtain ⟨vs, h1, _⟩ := h
  exact h1.lt
/-- a row of one's own -/
structure RwOwn (C : Nat) (w : World) (r : Rw) (xb fb ob kb : Nat) (rr : Nat → Nat) : Prop where
  c1 : C ≤ xb
  c2 : xb < fb
  c3 : fb < ob
  c4 : ob < kb
  x : VOwn xb 3 1 w (.slice (some ⟨xb, 0, none⟩) r.nn r.nn) r.nn (oneF r.X)
  f : VOwn fb 3 1 w (.slice (some ⟨fb, 0, none⟩) r.nf r.nf) r.nf (oneF r.F)
  o : VOwn ob 4 1 w (.slice (some ⟨ob, 0, none⟩) r.no r.no) r.no (boolF r.O)
  k : BsOwn w kb r.nk r.nk r.K r.T rr
theorem own_block {g b n k : Nat} (h : (Value.slice (some ⟨b, 0, none⟩) n k).ownBlock = some g) : g = b := by
  simp only [Value.ownBlock, Option.some.injEq] at h
  exact h.symm
theorem RwOwn.keep {C C' : Nat} {w w' : World} {r : Rw} {xb fb ob kb : Nat} {rr : Nat → Nat} (h : RwOwn C w r xb fb ob kb rr) (hC : C' ≤ C) (hk : ∀ g, C ≤ g → w'.heap[g]? = w.heap[g]?) : RwOwn C' w' r xb fb ob kb rr := by
  obtain ⟨h1, h2, h3, h4, x, f, o, k⟩ := h
  exact ⟨by omega, h2, h3, h4, x.keep (Nat.le_refl _) fun g hg => hk g (by have := own_block hg; omega), f.keep (Nat.le_refl _) fun g hg => hk g (by have := own_block hg; omega), o.keep (Nat.le_refl _) fun g hg => hk g (by have := own_block hg; omega), k.keep fun g hg => hk g (by omega)⟩
theorem RwOwn.mono {C C' : Nat} {w w' : World} {r : Rw} {xb fb ob kb B : Nat} {rr : Nat → Nat} (h : RwOwn C w r xb fb ob kb rr) (hC : C' ≤ C) (hb : Below B w w') (hB : w.heap.size ≤ B) : RwOwn C' w' r xb fb ob kb rr :=
  ⟨Nat.le_trans hC h.c1, h.c2, h.c3, h.c4, h.x.mono (Nat.le_refl _) hb hB, h.f.mono (Nat.le_refl _) hb hB, h.o.mono (Nat.le_refl _) hb hB, h.k.mono hb hB⟩
theorem RwOwn.in {C C' : Nat} {w : World} {r : Rw} {xb fb ob kb : Nat} {rr : Nat → Nat} (h : RwOwn C w r xb fb ob kb rr) (hC : C' ≤ C) : RwIn C' w r (some ⟨xb, 0, none⟩) (some ⟨fb, 0, none⟩) (some ⟨ob, 0, none⟩) (some ⟨kb, 0, none⟩) := by
  obtain ⟨h1, h2, h3, h4, x, f, o, k⟩ := h
  exact ⟨x.vs.le (by omega), f.vs.le (by omega), o.vs.le (by omega), k.at (by omega)⟩

end Go.Proofs.Ytflomaagenjfpaa
