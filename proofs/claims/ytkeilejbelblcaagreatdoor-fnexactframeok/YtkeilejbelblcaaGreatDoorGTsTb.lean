import Derived.Test.YtkeilejbelblcaaGreatDoorTw
import Derived.Test.YtkeilejbelblcaaGreatDoorGK1Tf
namespace Go.Proofs.YtkeilejbelblcaaGreatDoor
open Go.RowKit

/-- five stores into a row of cells -/
def s5 (vs : Array Value) (p : Nat) (a0 a1 a2 a3 a4 : Value) : Array Value := ((((vs.setIfInBounds p a0).setIfInBounds (p + 1) a1).setIfInBounds (p + 2) a2).setIfInBounds (p + 3) a3).setIfInBounds (p + 4) a4
theorem s5_lo (vs : Array Value) (p : Nat) (a0 a1 a2 a3 a4 : Value) {q : Nat} (h : q < p) : (s5 vs p a0 a1 a2 a3 a4)[q]? = vs[q]? := by
  simp only [s5, Array.getElem?_setIfInBounds, show ¬ p = q by omega, show ¬ p + 1 = q by omega, show ¬ p + 2 = q by omega, show ¬ p + 3 = q by omega, show ¬ p + 4 = q by omega, if_false]
theorem s5_at (vs : Array Value) (p : Nat) (a0 a1 a2 a3 a4 : Value) (h : p + 5 ≤ vs.size) : let x := s5 vs p a0 a1 a2 a3 a4
    x[p]? = some a0 ∧ x[p + 1]? = some a1 ∧ x[p + 2]? = some a2 ∧ x[p + 3]? = some a3 ∧ x[p + 4]? = some a4 := by
  simp only [s5, Array.getElem?_setIfInBounds, Array.size_setIfInBounds]
  refine ⟨?_, ?_, ?_, ?_, ?_⟩ <;> simp <;> omega
/-- one way of a row of ways, with its lists in blocks from l up to u -/
structure WyRow (w : World) (vs : Array Value) (i : Nat) (y : Wy) (l u : Nat) (b1 b2 b3 b4 b5 : Nat) : Prop where
  c0 : vs[i * 5]? = some (.slice (some ⟨b1, 0, none⟩) y.ns y.ns)
  c1 : vs[i * 5 + 1]? = some (.slice (some ⟨b2, 0, none⟩) y.nl y.nl)
  c2 : vs[i * 5 + 2]? = some (.slice (some ⟨b3, 0, none⟩) y.nf y.nf)
  c3 : vs[i * 5 + 3]? = some (.slice (some ⟨b4, 0, none⟩) y.no y.no)
  c4 : vs[i * 5 + 4]? = some (.slice (some ⟨b5, 0, none⟩) y.nm y.nm)
  own : WyOwn l w y b1 b2 b3 b4 b5
  lt : b5 < u
/-- a row of n ways of which k are there -/
def WsOwn (w : World) (b n k : Nat) (Y : Nat → Wy) (lo : Nat → Nat) : Prop :=
  ∃ vs : Array Value, Box w b 112 vs ∧ vs.size = n * 5 ∧ b < lo 0 ∧ lo k ≤ w.heap.size ∧ (∀ i j, i ≤ j → j ≤ k → lo i ≤ lo j) ∧ ∀ i, i < k → ∃ b1 b2 b3 b4 b5, WyRow w vs i (Y i) (lo i) (lo (i + 1)) b1 b2 b3 b4 b5
theorem WyRow.keep {w w' : World} {vs : Array Value} {i : Nat} {y : Wy} {l u b1 b2 b3 b4 b5 : Nat} (h : WyRow w vs i y l u b1 b2 b3 b4 b5) (hk : ∀ g, l ≤ g → g < u → w'.heap[g]? = w.heap[g]?) : WyRow w' vs i y l u b1 b2 b3 b4 b5 :=
  ⟨h.c0, h.c1, h.c2, h.c3, h.c4, h.own.keep (Nat.le_refl _) fun g h1 h2 => hk g h1 (by have := h.lt; omega), h.lt⟩
theorem WsOwn.mono {w w' : World} {b n k N : Nat} {Y : Nat → Wy} {lo : Nat → Nat} (h : WsOwn w b n k Y lo) (hb : Below N w w') (hN : w.heap.size ≤ N) : WsOwn w' b n k Y lo := by
  obtain ⟨vs, h1, h2, h3, h4, h5, h6⟩ := h
  refine ⟨vs, h1.mono hb hN, h2, h3, Nat.le_trans h4 hb.size, h5, fun i hi => ?_⟩
  obtain ⟨b1, b2, b3, b4, b5, hr⟩ := h6 i hi
  exact ⟨b1, b2, b3, b4, b5, hr.keep fun g _ hg => hb.block g (by have := h5 (i + 1) k (by omega) (Nat.le_refl _); omega)⟩
theorem WsOwn.at {w : World} {b n C : Nat} {Y : Nat → Wy} {lo : Nat → Nat} (h : WsOwn w b n n Y lo) (hC : C ≤ b) : WsAt C w (some ⟨b, 0, none⟩) n Y := by
  obtain ⟨vs, h1, h2, h3, h4, h5, h6⟩ := h
  intro _
  refine ⟨b, 0, rfl, hC, h1.lt, fun i hi => ?_⟩
  obtain ⟨b1, b2, b3, b4, b5, hr⟩ := h6 i hi
  have hl : b < lo i := Nat.lt_of_lt_of_le h3 (h5 0 i (Nat.zero_le _) (by omega))
  have e := fun o => h1.cell o
  refine ⟨some ⟨b1, 0, none⟩, (Y i).ns, some ⟨b2, 0, none⟩, (Y i).nl, some ⟨b3, 0, none⟩, (Y i).nf, some ⟨b4, 0, none⟩, (Y i).no, some ⟨b5, 0, none⟩, (Y i).nm, ?_, ?_, ?_, ?_, ?_, hr.own.in (by omega)⟩
  · rw [Nat.zero_add, e, hr.c0]
  · rw [Nat.zero_add, e, hr.c1]
  · rw [Nat.zero_add, e, hr.c2]
  · rw [Nat.zero_add, e, hr.c3]
  · rw [Nat.zero_add, e, hr.c4]
/-- one way more -/
theorem WsOwn.step {w w1 : World} {b n k : Nat} {Y : Nat → Wy} {lo : Nat → Nat} {b1 b2 b3 b4 b5 : Nat} (h : WsOwn w b n k Y lo) (hk : k < n) (hb : Below w.heap.size w w1) (ho : WyOwn w.heap.size w1 (Y k) b1 b2 b3 b4 b5) :
    ∃ lo', WsOwn (((((w1.setCell ⟨b, k * 5, none⟩ (.slice (some ⟨b1, 0, none⟩) (Y k).ns (Y k).ns)).setCell ⟨b, k * 5 + 1, none⟩ (.slice (some ⟨b2, 0, none⟩) (Y k).nl (Y k).nl)).setCell ⟨b, k * 5 + 2, none⟩ (.slice (some ⟨b3, 0, none⟩) (Y k).nf (Y k).nf)).setCell ⟨b, k * 5 + 3, none⟩ (.slice (some ⟨b4, 0, none⟩) (Y k).no (Y k).no)).setCell ⟨b, k * 5 + 4, none⟩ (.slice (some ⟨b5, 0, none⟩) (Y k).nm (Y k).nm)) b n (k + 1) Y lo' := by
  have hl6 := ho.lt
  have hsz := hb.size
  obtain ⟨vs, h1, h2, h3, h4, h5, h6⟩ := h.mono hb (Nat.le_refl _)
  obtain ⟨_, _, _, _, h4w, _, _⟩ := h
  have hlo0 : lo 0 ≤ lo k := h5 0 k (Nat.zero_le _) (Nat.le_refl _)
  have hbl : b < w.heap.size := by omega
  have hBox := (((((h1.set (k * 5) (.slice (some ⟨b1, 0, none⟩) (Y k).ns (Y k).ns)).set (k * 5 + 1) (.slice (some ⟨b2, 0, none⟩) (Y k).nl (Y k).nl)).set (k * 5 + 2) (.slice (some ⟨b3, 0, none⟩) (Y k).nf (Y k).nf)).set (k * 5 + 3) (.slice (some ⟨b4, 0, none⟩) (Y k).no (Y k).no)).set (k * 5 + 4) (.slice (some ⟨b5, 0, none⟩) (Y k).nm (Y k).nm))
  have hkeep : ∀ g, g ≠ b → (((((w1.setCell ⟨b, k * 5, none⟩ (.slice (some ⟨b1, 0, none⟩) (Y k).ns (Y k).ns)).setCell ⟨b, k * 5 + 1, none⟩ (.slice (some ⟨b2, 0, none⟩) (Y k).nl (Y k).nl)).setCell ⟨b, k * 5 + 2, none⟩ (.slice (some ⟨b3, 0, none⟩) (Y k).nf (Y k).nf)).setCell ⟨b, k * 5 + 3, none⟩ (.slice (some ⟨b4, 0, none⟩) (Y k).no (Y k).no)).setCell ⟨b, k * 5 + 4, none⟩ (.slice (some ⟨b5, 0, none⟩) (Y k).nm (Y k).nm)).heap[g]? = w1.heap[g]? := fun g hg => by
    rw [Below.heap_setCell _ _ _ _ hg, Below.heap_setCell _ _ _ _ hg, Below.heap_setCell _ _ _ _ hg, Below.heap_setCell _ _ _ _ hg, Below.heap_setCell _ _ _ _ hg]
  obtain ⟨q0, q1, q2, q3, q4⟩ := s5_at vs (k * 5) (.slice (some ⟨b1, 0, none⟩) (Y k).ns (Y k).ns) (.slice (some ⟨b2, 0, none⟩) (Y k).nl (Y k).nl) (.slice (some ⟨b3, 0, none⟩) (Y k).nf (Y k).nf) (.slice (some ⟨b4, 0, none⟩) (Y k).no (Y k).no) (.slice (some ⟨b5, 0, none⟩) (Y k).nm (Y k).nm) (by omega)
  refine ⟨fun i => if i ≤ k then lo i else w1.heap.size, _, hBox, by simp only [Array.size_setIfInBounds]; exact h2, by dsimp only; rw [if_pos (Nat.zero_le _)]; exact h3, by rw [size_setc, size_setc, size_setc, size_setc, size_setc]; dsimp only; rw [if_neg (by omega)]; exact Nat.le_refl _, fun i j hij hj => ?_, fun i hi => ?_⟩
  · dsimp only
    by_cases e1 : j ≤ k
    · rw [if_pos e1, if_pos (by omega)]
      exact h5 i j hij e1
    · rw [if_neg e1]
      split
      · have := h5 i k (by omega) (Nat.le_refl _)
        omega
      · exact Nat.le_refl _
  · by_cases e : i = k
    · subst e
      dsimp only
      rw [if_pos (Nat.le_refl _), if_neg (by omega)]
      exact ⟨b1, b2, b3, b4, b5, q0, q1, q2, q3, q4, (ho.mono (C' := lo i) (by omega) (Below.refl w1.heap.size w1) (Nat.le_refl _)).keep (Nat.le_refl _) fun g h7 h8 => hkeep g (by have := h5 0 i (Nat.zero_le _) (Nat.le_refl _); omega), hl6⟩
    · obtain ⟨c1, c2, c3, c4, c5, hr⟩ := h6 i (by omega)
      have hu : lo i ≤ lo k := h5 i k (by omega) (Nat.le_refl _)
      have hl : lo 0 ≤ lo i := h5 0 i (Nat.zero_le _) (by omega)
      have e0 : ∀ j, j < 5 → (s5 vs (k * 5) (.slice (some ⟨b1, 0, none⟩) (Y k).ns (Y k).ns) (.slice (some ⟨b2, 0, none⟩) (Y k).nl (Y k).nl) (.slice (some ⟨b3, 0, none⟩) (Y k).nf (Y k).nf) (.slice (some ⟨b4, 0, none⟩) (Y k).no (Y k).no) (.slice (some ⟨b5, 0, none⟩) (Y k).nm (Y k).nm))[i * 5 + j]? = vs[i * 5 + j]? := fun j hj => s5_lo _ _ _ _ _ _ _ (by omega)
      refine ⟨c1, c2, c3, c4, c5, ⟨(e0 0 (by omega)).trans hr.c0, (e0 1 (by omega)).trans hr.c1, (e0 2 (by omega)).trans hr.c2, (e0 3 (by omega)).trans hr.c3, (e0 4 (by omega)).trans hr.c4, ?_, ?_⟩⟩
      · dsimp only
        rw [if_pos (by omega)]
        exact hr.own.keep (Nat.le_refl _) fun g h7 _ => hkeep g (by omega)
      · dsimp only
        rw [if_pos (by omega)]
        exact hr.lt

set_option maxRecDepth 100000 in
set_option maxHeartbeats 4000000 in
theorem toWayS (a : Option Addr) (n cap : Nat) (Y : Nat → Wy) (w : World) (hn : n ≤ 1048576) (hR : WsAt 0 w a n Y) (hs : ∀ i, i < n → (Y i).small 1048576) :
    Calls Tryz.prog 37 #[.slice a n cap] w fun e w' => ∃ b lo, b = w.heap.size ∧ e = .returned (.slice (some ⟨b, 0, none⟩) n n) ∧ WsOwn w' b n n Y lo ∧ Below w.heap.size w w' := by
  have HS : Hid (∀ i, i < n → (Y i).small 1048576) := hs
  have hmk := make_rows (P := Tryz.prog) 35 112 _ 120 5 Tryz.underlying35 infoWay n (by omega) (by omega)
  have hf0 : WsOwn (w.alloc (.cells (mk0 (.agg #[.slice none 0 0, .slice none 0 0, .slice none 0 0, .slice none 0 0, .slice none 0 0]) (n * 5)) 112)) w.heap.size n 0 Y (fun _ => w.heap.size + 1) :=
    ⟨_, Box.new w 112 _, size_madeCells _ _, by simp, by simp, fun _ _ _ _ => Nat.le_refl _, fun i hi => absurd hi (Nat.not_lt_zero _)⟩
  clear hs
  go_enter Tryz.func37, Tryz.ntmps37
  go_wp2_with fail
  go_loopw [4] (fun i wr => ∃ (k : Nat) (lo : Nat → Nat), k ≤ n ∧ i = .int .i64 k ∧ Hid (WsOwn wr w.heap.size n k Y lo) ∧ Below w.heap.size w wr) (fun i _ => n - (intOf i).toNat)
  case atStart => exact ⟨0, _, Nat.zero_le _, rfl, hf0, bel1 _ _⟩
  case round =>
    obtain ⟨k, lo, hk, rfl, HT, hbel⟩ := hrel
    clear hf0 hmk
    by_cases hlt : k < n
    · obtain ⟨b, off, rfl, _, hb, hc⟩ := (hR.mono (Nat.le_refl _) hbel (Nat.le_refl _)) (by omega)
      obtain ⟨sa, sc, la, lc, fa, fc, oa, oc, ma, mc, c0, c1, c2, c3, c4, hin⟩ := hc k hlt
      have HIN : Hid (WyIn 0 wr (Y k) sa la fa oa ma) := hin
      clear hc hin
      go_wp2_with fail
      clear c0 c1 c2 c3 c4
      refine (toWay (Y k) sa la fa oa ma sc lc fc oc mc _ (HS.out k hlt) HIN.out).mono ?_
      rintro e w1 ⟨b1, b2, b3, b4, b5, rfl, ho, hb1⟩
      obtain ⟨lo', hst⟩ := HT.out.step hlt hb1 ho
      obtain ⟨vs, h1, h2, _⟩ := HT.out.mono hb1 (Nat.le_refl _)
      have d : ∀ j, j < 5 → ∃ v, w1.cell? ⟨w.heap.size, k * 5 + j, none⟩ = some v := fun j hj => ⟨vs[k * 5 + j]'(by omega), by rw [h1.cell]; exact Array.getElem?_eq_getElem _⟩
      obtain ⟨v0, d0⟩ := d 0 (by omega)
      obtain ⟨v1, d1⟩ := d 1 (by omega)
      obtain ⟨v2, d2⟩ := d 2 (by omega)
      obtain ⟨v3, d3⟩ := d 3 (by omega)
      obtain ⟨v4, d4⟩ := d 4 (by omega)
      rw [Nat.add_zero] at d0
      have f0 := h1.free (k * 5)
      have f1 := h1.free (k * 5 + 1)
      have f2 := h1.free (k * 5 + 2)
      have f3 := h1.free (k * 5 + 3)
      have f4 := h1.free (k * 5 + 4)
      have HST : Hid (WsOwn _ w.heap.size n (k + 1) Y lo') := hst
      have hbel1 := hbel.trans (hb1.mono hbel.size)
      clear d hst h1 h2 HIN HT ho hb1
      go_wp2_with fail
      go_roundw
      case rel => exact ⟨k + 1, lo', by omega, by go_num, HST, ((((hbel1.setCell (Nat.le_refl _) _).setCell (Nat.le_refl _) _).setCell (Nat.le_refl _) _).setCell (Nat.le_refl _) _).setCell (Nat.le_refl _) _⟩
      case measure => simp [intOf]; omega
    · obtain rfl : k = n := by omega
      go_wp2
      go_ret
      exact ⟨_, lo, rfl, rfl, HT.out, hbel⟩

end Go.Proofs.YtkeilejbelblcaaGreatDoor

namespace Go.Proofs.YtkeilejbelblcaaGreatDoor
open Go.RowKit

/-- rows of truths of one's own: each in a block of its own, the blocks in a row -/
def BsOwn (w : World) (b n k : Nat) (K : Nat → Nat) (T : Nat → Nat → Bool) (r : Nat → Nat) : Prop :=
  ∃ vs : Array Value, Box w b 27 vs ∧ vs.size = n ∧ ∀ i, i < k → vs[i]? = some (.slice (some ⟨r i, 0, none⟩) (K i) (K i)) ∧ VOwn (r i) 4 1 w (.slice (some ⟨r i, 0, none⟩) (K i) (K i)) (K i) (boolF (T i)) ∧ b < r i ∧ ∀ j, j < i → r j < r i
theorem BsOwn.mono {w w' : World} {b n k N : Nat} {K : Nat → Nat} {T : Nat → Nat → Bool} {r : Nat → Nat} (h : BsOwn w b n k K T r) (hb : Below N w w') (hN : w.heap.size ≤ N) : BsOwn w' b n k K T r := by
  obtain ⟨vs, h1, h2, h3⟩ := h
  refine ⟨vs, h1.mono hb hN, h2, fun i hi => ?_⟩
  obtain ⟨e1, e2, e3⟩ := h3 i hi
  exact ⟨e1, e2.mono (Nat.le_refl _) hb hN, e3⟩
theorem BsOwn.at {w : World} {b n C : Nat} {K : Nat → Nat} {T : Nat → Nat → Bool} {r : Nat → Nat} (h : BsOwn w b n n K T r) (hC : C ≤ b) : BsAt C w (some ⟨b, 0, none⟩) n K T := by
  obtain ⟨vs, h1, h2, h3⟩ := h
  intro _
  refine ⟨b, 0, rfl, hC, h1.lt, fun i hi => ?_⟩
  obtain ⟨e1, e2, e3, e4⟩ := h3 i hi
  exact ⟨_, _, by rw [Nat.zero_add, h1.cell, e1], e2.vs.le (by omega)⟩
theorem BsOwn.step {w w1 : World} {b n k : Nat} {K : Nat → Nat} {T : Nat → Nat → Bool} {r : Nat → Nat} {b1 : Nat} (h : BsOwn w b n k K T r) (hk : k < n) (hb : Below w.heap.size w w1) (h1b : b1 = w.heap.size) (ho : VOwn b1 4 1 w1 (.slice (some ⟨b1, 0, none⟩) (K k) (K k)) (K k) (boolF (T k))) (hr : ∀ i, i < k → r i < w.heap.size) :
    BsOwn (w1.setCell ⟨b, k, none⟩ (.slice (some ⟨b1, 0, none⟩) (K k) (K k))) b n (k + 1) K T (fun i => if i < k then r i else b1) := by
  have hbw : b < w.heap.size := by obtain ⟨_, h1, _⟩ := h; exact h1.lt
  obtain ⟨vs, h1, h2, h3⟩ := h.mono hb (Nat.le_refl _)
  have hkeep : ∀ g, g ≠ b → (w1.setCell ⟨b, k, none⟩ (.slice (some ⟨b1, 0, none⟩) (K k) (K k))).heap[g]? = w1.heap[g]? := fun g hg => Below.heap_setCell _ _ _ _ hg
  refine ⟨_, h1.set k _, by simp only [Array.size_setIfInBounds]; exact h2, fun i hi => ?_⟩
  by_cases e : i = k
  · subst e
    simp only [Nat.lt_irrefl, if_false]
    refine ⟨by simp [Array.getElem?_setIfInBounds]; omega, ho.keep (Nat.le_refl _) fun g hg => hkeep g ?_, by omega, fun j hj => ?_⟩
    · simp only [Value.ownBlock, Option.some.injEq] at hg
      omega
    · rw [if_pos hj, h1b]
      exact hr j hj
  · have hik : i < k := by omega
    simp only [hik, if_true]
    obtain ⟨e1, e2, e3, e4⟩ := h3 i hik
    refine ⟨?_, e2.keep (Nat.le_refl _) fun g hg => hkeep g ?_, e3, fun j hj => ?_⟩
    · simp only [Array.getElem?_setIfInBounds, show ¬ k = i by omega, if_false]
      exact e1
    · simp only [Value.ownBlock, Option.some.injEq] at hg
      omega
    · rw [if_pos (by omega)]
      exact e4 j hj

set_option maxRecDepth 100000 in
set_option maxHeartbeats 4000000 in
theorem toBoolSS (a : Option Addr) (n cap : Nat) (K : Nat → Nat) (T : Nat → Nat → Bool) (w : World) (hn : n ≤ 1048576) (hR : BsAt 0 w a n K T) (hs : ∀ i, i < n → K i ≤ 1048576) :
    Calls Tryz.prog 38 #[.slice a n cap] w fun e w' => ∃ b r, b = w.heap.size ∧ e = .returned (.slice (some ⟨b, 0, none⟩) n n) ∧ BsOwn w' b n n K T r ∧ Below w.heap.size w w' := by
  have HS : Hid (∀ i, i < n → K i ≤ 1048576) := hs
  have hmk := make_rows (P := Tryz.prog) 24 27 _ 24 1 Tryz.underlying24 infoRow n (by omega) (by omega)
  have hf0 : BsOwn (w.alloc (.cells (mk0 (.slice none 0 0) (n * 1)) 27)) w.heap.size n 0 K T (fun _ => 0) :=
    ⟨_, Box.new w 27 _, (size_madeCells _ _).trans (Nat.mul_one n), fun i hi => absurd hi (Nat.not_lt_zero _)⟩
  have hf1 : BsOwn (w.alloc (.cells (mk0 (.slice none 0 0) n) 27)) w.heap.size n 0 K T (fun _ => 0) := by simpa only [Nat.mul_one] using hf0
  clear hs hf0
  go_enter Tryz.func38, Tryz.ntmps38
  go_wp2_with fail
  go_loopw [4] (fun i wr => ∃ (k : Nat) (r : Nat → Nat), k ≤ n ∧ i = .int .i64 k ∧ Hid (BsOwn wr w.heap.size n k K T r) ∧ Hid (∀ i, i < k → r i < wr.heap.size) ∧ Below w.heap.size w wr) (fun i _ => n - (intOf i).toNat)
  case atStart => exact ⟨0, fun _ => 0, Nat.zero_le _, rfl, hf1, fun i hi => absurd hi (Nat.not_lt_zero _), bel1 _ _⟩
  case round =>
    obtain ⟨k, r, hk, rfl, HT, HR, hbel⟩ := hrel
    clear hf1 hmk
    by_cases hlt : k < n
    · obtain ⟨b, off, rfl, _, hb, hc⟩ := (hR.mono (Nat.le_refl _) hbel (Nat.le_refl _)) (by omega)
      obtain ⟨ra, rc, c0, hin⟩ := hc k hlt
      have HIN : Hid (VsAt 1 0 wr ra (K k) (boolF (T k))) := hin
      clear hc hin
      go_wp2_with fail
      clear c0
      refine (toBoolS ra (K k) rc (T k) _ (HS.out k hlt) HIN.out).mono ?_
      rintro e w1 ⟨b1, h1b, rfl, ho, hb1⟩
      have hst := HT.out.step hlt hb1 h1b ho HR.out
      obtain ⟨vs, h1, h2, _⟩ := HT.out.mono hb1 (Nat.le_refl _)
      obtain ⟨v0, d0⟩ : ∃ v, w1.cell? ⟨w.heap.size, k, none⟩ = some v := ⟨vs[k]'(by omega), by rw [h1.cell]; exact Array.getElem?_eq_getElem _⟩
      have f0 := h1.free k
      have HST : Hid (BsOwn _ w.heap.size n (k + 1) K T (fun i => if i < k then r i else b1)) := hst
      have hz1 : b1 < w1.heap.size := (ho.lt rfl).2
      have HR2 : Hid (∀ i, i < k + 1 → (if i < k then r i else b1) < w1.heap.size) := fun i hi => by
        by_cases e : i < k
        · rw [if_pos e]
          exact Nat.lt_of_lt_of_le (HR.out i e) hb1.size
        · rw [if_neg e]
          exact hz1
      have hbel1 := hbel.trans (hb1.mono hbel.size)
      clear hst h1 h2 HIN HT ho hb1 h1b HR hz1
      go_wp2_with fail
      go_roundw
      case rel => exact ⟨k + 1, _, by omega, by go_num, HST, fun i hi => by rw [size_setc]; exact HR2.out i hi, hbel1.setCell (Nat.le_refl _) _⟩
      case measure => simp [intOf]; omega
    · obtain rfl : k = n := by omega
      go_wp2
      go_ret
      exact ⟨_, r, rfl, rfl, HT.out, hbel⟩

end Go.Proofs.YtkeilejbelblcaaGreatDoor
