import Derived.Test.YtooebighlohobaaTf
namespace Go.Proofs.Ytooebighlohobaa
open Go.RowKit

/-- rows of truths of one's own: each in a block of its own, the blocks in a row -/
def BsOwn (w : World) (b n k : Nat) (K : Nat → Nat) (T : Nat → Nat → Bool) (r : Nat → Nat) : Prop :=
  ∃ vs : Array Value, Box w b 38 vs ∧ vs.size = n ∧ ∀ i, i < k → vs[i]? = some (.slice (some ⟨r i, 0, none⟩) (K i) (K i)) ∧ VOwn (r i) 4 1 w (.slice (some ⟨r i, 0, none⟩) (K i) (K i)) (K i) (boolF (T i)) ∧ b < r i ∧ ∀ j, j < i → r j < r i
theorem BsOwn.mono {w w' : World} {b n k N : Nat} {K : Nat → Nat} {T : Nat → Nat → Bool} {r : Nat → Nat} (h : BsOwn w b n k K T r) (hb : Below N w w') (hN : w.heap.size ≤ N) : BsOwn w' b n k K T r := by
  obtain ⟨vs, h1, h2, h3⟩ := h
  refine ⟨vs, h1.mono hb hN, h2, fun i hi => ?_⟩
  obtain ⟨e1, e2, e3⟩ := h3 i hi
  exact ⟨e1, e2.mono (Nat.le_refl _) hb hN, e3⟩
theorem BsOwn.at {w : World} {b n C : Nat} {K : Nat → Nat} {T : Nat → Nat → Bool} {r : Nat → Nat} (h : BsOwn w b n n K T r) (hC : C ≤ b) : BsAt C w (some ⟨b, 0, none⟩) n K T := by
  obtain ⟨vs, h1, h2, h3⟩ := h
  intro _
  refine ⟨b, 0, rfl, hC, h1.lt, fun i hi => ?_⟩
  obtain ⟨e1, e2, e3, e4⟩ := h3 i hi
  exact ⟨_, _, by rw [Nat.zero_add, h1.cell, e1], e2.vs.le (by omega)⟩
theorem BsOwn.step {w w1 : World} {b n k : Nat} {K : Nat → Nat} {T : Nat → Nat → Bool} {r : Nat → Nat} {b1 : Nat} (h : BsOwn w b n k K T r) (hk : k < n) (hb : Below w.heap.size w w1) (h1b : b1 = w.heap.size) (ho : VOwn b1 4 1 w1 (.slice (some ⟨b1, 0, none⟩) (K k) (K k)) (K k) (boolF (T k))) (hr : ∀ i, i < k → r i < w.heap.size) :
    BsOwn (w1.setCell ⟨b, k, none⟩ (.slice (some ⟨b1, 0, none⟩) (K k) (K k))) b n (k + 1) K T (fun i => if i < k then r i else b1) := by
  have hbw : b < w.heap.size := by obtain ⟨_, h1, _⟩ := h; exact h1.lt
  obtain ⟨vs, h1, h2, h3⟩ := h.mono hb (Nat.le_refl _)
  have hkeep : ∀ g, g ≠ b → (w1.setCell ⟨b, k, none⟩ (.slice (some ⟨b1, 0, none⟩) (K k) (K k))).heap[g]? = w1.heap[g]? := fun g hg => Below.heap_setCell _ _ _ _ hg
  refine ⟨_, h1.set k _, by simp only [Array.size_setIfInBounds]; exact h2, fun i hi => ?_⟩
  by_cases e : i = k
  · subst e
    simp only [Nat.lt_irrefl, if_false]
    refine ⟨by simp [Array.getElem?_setIfInBounds]; omega, ho.keep (Nat.le_refl _) fun g hg => hkeep g ?_, by omega, fun j hj => ?_⟩
    · simp only [Value.ownBlock, Option.some.injEq] at hg
      omega
    · rw [if_pos hj, h1b]
      exact hr j hj
  · have hik : i < k := by omega
    simp only [hik, if_true]
    obtain ⟨e1, e2, e3, e4⟩ := h3 i hik
    refine ⟨?_, e2.keep (Nat.le_refl _) fun g hg => hkeep g ?_, e3, fun j hj => ?_⟩
    · simp only [Array.getElem?_setIfInBounds, show ¬ k = i by omega, if_false]
      exact e1
    · simp only [Value.ownBlock, Option.some.injEq] at hg
      omega
    · rw [if_pos (by omega)]
      exact e4 j hj

set_option maxRecDepth 100000 in
set_option maxHeartbeats 4000000 in
theorem toBoolSS (a : Option Addr) (n cap : Nat) (K : Nat → Nat) (T : Nat → Nat → Bool) (w : World) (hn : n ≤ 1048576) (hR : BsAt 0 w a n K T) (hs : ∀ i, i < n → K i ≤ 1048576) :
    Calls Try.prog 29 #[.slice a n cap] w fun e w' => ∃ b r, b = w.heap.size ∧ e = .returned (.slice (some ⟨b, 0, none⟩) n n) ∧ BsOwn w' b n n K T r ∧ Below w.heap.size w w' := by
  have HS : Hid (∀ i, i < n → K i ≤ 1048576) := hs
  have hmk := make_rows (P := Try.prog) 24 38 _ 24 1 Try.underlying24 infoRow n (by omega) (by omega)
  have hf0 : BsOwn (w.alloc (.cells (mk0 (.slice none 0 0) (n * 1)) 38)) w.heap.size n 0 K T (fun _ => 0) :=
    ⟨_, Box.new w 38 _, (size_madeCells _ _).trans (Nat.mul_one n), fun i hi => absurd hi (Nat.not_lt_zero _)⟩
  have hf1 : BsOwn (w.alloc (.cells (mk0 (.slice none 0 0) n) 38)) w.heap.size n 0 K T (fun _ => 0) := by simpa only [Nat.mul_one] using hf0
  clear hs hf0
  go_enter Try.func29, Try.ntmps29
  go_wp2_with fail
  go_loopw [4] (fun i wr => ∃ (k : Nat) (r : Nat → Nat), k ≤ n ∧ i = .int .i64 k ∧ Hid (BsOwn wr w.heap.size n k K T r) ∧ Hid (∀ i, i < k → r i < wr.heap.size) ∧ Below w.heap.size w wr) (fun i _ => n - (intOf i).toNat)
  case atStart => exact ⟨0, fun _ => 0, Nat.zero_le _, rfl, hf1, fun i hi => absurd hi (Nat.not_lt_zero _), bel1 _ _⟩
  case round =>
    obtain ⟨k, r, hk, rfl, HT, HR, hbel⟩ := hrel
    clear hf1 hmk
    by_cases hlt : k < n
    · obtain ⟨b, off, rfl, _, hb, hc⟩ := (hR.mono (Nat.le_refl _) hbel (Nat.le_refl _)) (by omega)
      obtain ⟨ra, rc, c0, hin⟩ := hc k hlt
      have HIN : Hid (VsAt 1 0 wr ra (K k) (boolF (T k))) := hin
      clear hc hin
      go_wp2_with fail
      clear c0
      refine (toBoolS ra (K k) rc (T k) _ (HS.out k hlt) HIN.out).mono ?_
      rintro e w1 ⟨b1, h1b, rfl, ho, hb1⟩
      have hst := HT.out.step hlt hb1 h1b ho HR.out
      obtain ⟨vs, h1, h2, _⟩ := HT.out.mono hb1 (Nat.le_refl _)
      obtain ⟨v0, d0⟩ : ∃ v, w1.cell? ⟨w.heap.size, k, none⟩ = some v := ⟨vs[k]'(by omega), by rw [h1.cell]; exact Array.getElem?_eq_getElem _⟩
      have f0 := h1.free k
      have HST : Hid (BsOwn _ w.heap.size n (k + 1) K T (fun i => if i < k then r i else b1)) := hst
      have hz1 : b1 < w1.heap.size := (ho.lt rfl).2
      have HR2 : Hid (∀ i, i < k + 1 → (if i < k then r i else b1) < w1.heap.size) := fun i hi => by
        by_cases e : i < k
        · rw [if_pos e]
          exact Nat.lt_of_lt_of_le (HR.out i e) hb1.size
        · rw [if_neg e]
          exact hz1
      have hbel1 := hbel.trans (hb1.mono hbel.size)
      clear hst h1 h2 HIN HT ho hb1 h1b HR hz1
      go_wp2_with fail
      go_roundw
      case rel => exact ⟨k + 1, _, by omega, by go_num, HST, fun i hi => by rw [size_setc]; exact HR2.out i hi, hbel1.setCell (Nat.le_refl _) _⟩
      case measure => simp [intOf]; omega
    · obtain rfl : k = n := by omega
      go_wp2
      go_ret
      exact ⟨_, r, rfl, rfl, HT.out, hbel⟩

end Go.Proofs.Ytooebighlohobaa
