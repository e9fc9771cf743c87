import Derived.Test.YtlgapgajgpilgaaGreatDoorZaq
import Derived.Test.YtlgapgajgpilgaaGreatDoorZab
namespace Go.Proofs.YtlgapgajgpilgaaGreatDoor
open Go.RowKit
def s5 (vs : Array Value) (p : Nat) (a0 a1 a2 a3 a4 : Value) : Array Value := ((((vs.setIfInBounds p a0).setIfInBounds (p + 1) a1).setIfInBounds (p + 2) a2).setIfInBounds (p + 3) a3).setIfInBounds (p + 4) a4
theorem s5_lo (vs : Array Value) (p : Nat) (a0 a1 a2 a3 a4 : Value) {q : Nat} (h : q < p) : (s5 vs p a0 a1 a2 a3 a4)[q]? = vs[q]? := by
 simp only [s5, Array.getElem?_setIfInBounds, show ¬ p = q by omega, show ¬ p + 1 = q by omega, show ¬ p + 2 = q by omega, show ¬ p + 3 = q by omega, show ¬ p + 4 = q by omega, if_false]
theorem s5_at (vs : Array Value) (p : Nat) (a0 a1 a2 a3 a4 : Value) (h : p + 5 ≤ vs.size) : let x := s5 vs p a0 a1 a2 a3 a4
  x[p]? = some a0 ∧ x[p + 1]? = some a1 ∧ x[p + 2]? = some a2 ∧ x[p + 3]? = some a3 ∧ x[p + 4]? = some a4 := by
 simp only [s5, Array.getElem?_setIfInBounds, Array.size_setIfInBounds]
 refine ⟨?_, ?_, ?_, ?_, ?_⟩ <;> simp <;> omega
structure WyRow (w : World) (vs : Array Value) (i : Nat) (y : Wy) (l u : Nat) (b1 b2 b3 b4 b5 : Nat) : Prop where
 c0 : vs[i * 5]? = some (.slice (some ⟨b1, 0, none⟩) y.ns y.ns)
 c1 : vs[i * 5 + 1]? = some (.slice (some ⟨b2, 0, none⟩) y.nl y.nl)
 c2 : vs[i * 5 + 2]? = some (.slice (some ⟨b3, 0, none⟩) y.nf y.nf)
 c3 : vs[i * 5 + 3]? = some (.slice (some ⟨b4, 0, none⟩) y.no y.no)
 c4 : vs[i * 5 + 4]? = some (.slice (some ⟨b5, 0, none⟩) y.nm y.nm)
 own : WyOwn l w y b1 b2 b3 b4 b5
 lt : b5 < u
def WsOwn (w : World) (b n k : Nat) (Y : Nat → Wy) (lo : Nat → Nat) : Prop :=
 ∃ vs : Array Value, Box w b 96 vs ∧ vs.size = n * 5 ∧ b < lo 0 ∧ lo k ≤ w.heap.size ∧ (∀ i j, i ≤ j → j ≤ k → lo i ≤ lo j) ∧ ∀ i, i < k → ∃ b1 b2 b3 b4 b5, WyRow w vs i (Y i) (lo i) (lo (i + 1)) b1 b2 b3 b4 b5
theorem WyRow.keep {w w' : World} {vs : Array Value} {i : Nat} {y : Wy} {l u b1 b2 b3 b4 b5 : Nat} (h : WyRow w vs i y l u b1 b2 b3 b4 b5) (hk : ∀ g, l ≤ g → g < u → w'.heap[g]? = w.heap[g]?) : WyRow w' vs i y l u b1 b2 b3 b4 b5 :=
 ⟨h.c0, h.c1, h.c2, h.c3, h.c4, h.own.keep nr fun g h1 h2 => hk g h1 (by have := h.lt; omega), h.lt⟩
theorem WsOwn.mono {w w' : World} {b n k N : Nat} {Y : Nat → Wy} {lo : Nat → Nat} (h : WsOwn w b n k Y lo) (hb : Below N w w') (hN : w.heap.size ≤ N) : WsOwn w' b n k Y lo := by
 obtain ⟨vs, h1, h2, h3, h4, h5, h6⟩ := h
 refine ⟨vs, h1.mono hb hN, h2, h3, Nat.le_trans h4 hb.size, h5, fun i hi => ?_⟩
 obtain ⟨b1, b2, b3, b4, b5, hr⟩ := h6 i hi
 exact ⟨b1, b2, b3, b4, b5, hr.keep fun g _ hg => hb.block g (by have := h5 (i + 1) k (by omega) nr; omega)⟩
theorem WsOwn.at {w : World} {b n C : Nat} {Y : Nat → Wy} {lo : Nat → Nat} (h : WsOwn w b n n Y lo) (hC : C ≤ b) : WsAt C w (some ⟨b, 0, none⟩) n Y := by
 obtain ⟨vs, h1, h2, h3, h4, h5, h6⟩ := h
 intro _
 refine ⟨b, 0, rfl, hC, h1.lt, fun i hi => ?_⟩
 obtain ⟨b1, b2, b3, b4, b5, hr⟩ := h6 i hi
 have hl : b < lo i := Nat.lt_of_lt_of_le h3 (h5 0 i (Nat.zero_le _) (by omega))
 have e := fun o => h1.cell o
 refine ⟨some ⟨b1, 0, none⟩, (Y i).ns, some ⟨b2, 0, none⟩, (Y i).nl, some ⟨b3, 0, none⟩, (Y i).nf, some ⟨b4, 0, none⟩, (Y i).no, some ⟨b5, 0, none⟩, (Y i).nm, ?_, ?_, ?_, ?_, ?_, hr.own.in (by omega)⟩
 ·
  rw [Nat.zero_add, e, hr.c0]
 ·
  rw [Nat.zero_add, e, hr.c1]
 ·
  rw [Nat.zero_add, e, hr.c2]
 ·
  rw [Nat.zero_add, e, hr.c3]
 ·
  rw [Nat.zero_add, e, hr.c4]
theorem WsOwn.step {w w1 : World} {b n k : Nat} {Y : Nat → Wy} {lo : Nat → Nat} {b1 b2 b3 b4 b5 : Nat} (h : WsOwn w b n k Y lo) (hk : k < n) (hb : Below w.heap.size w w1) (ho : WyOwn w.heap.size w1 (Y k) b1 b2 b3 b4 b5) :
  ∃ lo', WsOwn (((((w1.setCell ⟨b, k * 5, none⟩ (.slice (some ⟨b1, 0, none⟩) (Y k).ns (Y k).ns)).setCell ⟨b, k * 5 + 1, none⟩ (.slice (some ⟨b2, 0, none⟩) (Y k).nl (Y k).nl)).setCell ⟨b, k * 5 + 2, none⟩ (.slice (some ⟨b3, 0, none⟩) (Y k).nf (Y k).nf)).setCell ⟨b, k * 5 + 3, none⟩ (.slice (some ⟨b4, 0, none⟩) (Y k).no (Y k).no)).setCell ⟨b, k * 5 + 4, none⟩ (.slice (some ⟨b5, 0, none⟩) (Y k).nm (Y k).nm)) b n (k + 1) Y lo' := by
 have hl6 := ho.lt
 have hsz := hb.size
 obtain ⟨vs, h1, h2, h3, h4, h5, h6⟩ := h.mono hb nr
 obtain ⟨_, _, _, _, h4w, _, _⟩ := h
 have hlo0 : lo 0 ≤ lo k := h5 0 k (Nat.zero_le _) nr
 have hbl : b < w.heap.size := by omega
 have hBox := (((((h1.set (k * 5) (.slice (some ⟨b1, 0, none⟩) (Y k).ns (Y k).ns)).set (k * 5 + 1) (.slice (some ⟨b2, 0, none⟩) (Y k).nl (Y k).nl)).set (k * 5 + 2) (.slice (some ⟨b3, 0, none⟩) (Y k).nf (Y k).nf)).set (k * 5 + 3) (.slice (some ⟨b4, 0, none⟩) (Y k).no (Y k).no)).set (k * 5 + 4) (.slice (some ⟨b5, 0, none⟩) (Y k).nm (Y k).nm))
 have hkeep : ∀ g, g ≠ b → (((((w1.setCell ⟨b, k * 5, none⟩ (.slice (some ⟨b1, 0, none⟩) (Y k).ns (Y k).ns)).setCell ⟨b, k * 5 + 1, none⟩ (.slice (some ⟨b2, 0, none⟩) (Y k).nl (Y k).nl)).setCell ⟨b, k * 5 + 2, none⟩ (.slice (some ⟨b3, 0, none⟩) (Y k).nf (Y k).nf)).setCell ⟨b, k * 5 + 3, none⟩ (.slice (some ⟨b4, 0, none⟩) (Y k).no (Y k).no)).setCell ⟨b, k * 5 + 4, none⟩ (.slice (some ⟨b5, 0, none⟩) (Y k).nm (Y k).nm)).heap[g]? = w1.heap[g]? := fun g hg => by
  rw [Below.heap_setCell _ _ _ _ hg, Below.heap_setCell _ _ _ _ hg, Below.heap_setCell _ _ _ _ hg, Below.heap_setCell _ _ _ _ hg, Below.heap_setCell _ _ _ _ hg]
 obtain ⟨q0, q1, q2, q3, q4⟩ := s5_at vs (k * 5) (.slice (some ⟨b1, 0, none⟩) (Y k).ns (Y k).ns) (.slice (some ⟨b2, 0, none⟩) (Y k).nl (Y k).nl) (.slice (some ⟨b3, 0, none⟩) (Y k).nf (Y k).nf) (.slice (some ⟨b4, 0, none⟩) (Y k).no (Y k).no) (.slice (some ⟨b5, 0, none⟩) (Y k).nm (Y k).nm) (by omega)
 refine ⟨fun i => if i ≤ k then lo i else w1.heap.size, _, hBox, by simp only [Array.size_setIfInBounds]; exact h2, by dsimp only; rw [if_pos (Nat.zero_le _)]; exact h3, by rw [size_setc, size_setc, size_setc, size_setc, size_setc]; dsimp only; rw [if_neg (by omega)]; exact Nat.le_refl _, fun i j hij hj => ?_, fun i hi => ?_⟩
 ·
  dsimp only
  by_cases e1 : j ≤ k
  ·
   rw [if_pos e1, if_pos (by omega)]
   exact h5 i j hij e1
  ·
   rw [if_neg e1]
   split
   ·
    have := h5 i k (by omega) nr
    omega
   ·
    exact Nat.le_refl _
 ·
  by_cases e : i = k
  ·
   subst e
   dsimp only
   rw [if_pos nr, if_neg (by omega)]
   exact ⟨b1, b2, b3, b4, b5, q0, q1, q2, q3, q4, (ho.mono (C' := lo i) (by omega) (Below.refl w1.heap.size w1) nr).keep nr fun g h7 h8 => hkeep g (by have := h5 0 i (Nat.zero_le _) nr; omega), hl6⟩
  ·
   obtain ⟨c1, c2, c3, c4, c5, hr⟩ := h6 i (by omega)
   have hu : lo i ≤ lo k := h5 i k (by omega) nr
   have hl : lo 0 ≤ lo i := h5 0 i (Nat.zero_le _) (by omega)
   have e0 : ∀ j, j < 5 → (s5 vs (k * 5) (.slice (some ⟨b1, 0, none⟩) (Y k).ns (Y k).ns) (.slice (some ⟨b2, 0, none⟩) (Y k).nl (Y k).nl) (.slice (some ⟨b3, 0, none⟩) (Y k).nf (Y k).nf) (.slice (some ⟨b4, 0, none⟩) (Y k).no (Y k).no) (.slice (some ⟨b5, 0, none⟩) (Y k).nm (Y k).nm))[i * 5 + j]? = vs[i * 5 + j]? := fun j hj => s5_lo _ _ _ _ _ _ _ (by omega)
   refine ⟨c1, c2, c3, c4, c5, ⟨(e0 0 (by omega)).trans hr.c0, (e0 1 (by omega)).trans hr.c1, (e0 2 (by omega)).trans hr.c2, (e0 3 (by omega)).trans hr.c3, (e0 4 (by omega)).trans hr.c4, ?_, ?_⟩⟩
   ·
    dsimp only
    rw [if_pos (by omega)]
    exact hr.own.keep nr fun g h7 _ => hkeep g (by omega)
   ·
    dsimp only
    rw [if_pos (by omega)]
    exact hr.lt
set_option maxRecDepth 100000 in
set_option maxHeartbeats 4000000 in
theorem toWayS (a : Option Addr) (n cap : Nat) (Y : Nat → Wy) (w : World) (hn : n ≤ 1048576) (hR : WsAt 0 w a n Y) (hs : ∀ i, i < n → (Y i).small 1048576) :
  Calls Tryz.prog 39 #[.slice a n cap] w fun e w' => ∃ b lo, b = w.heap.size ∧ e = .returned (.slice (some ⟨b, 0, none⟩) n n) ∧ WsOwn w' b n n Y lo ∧ Below w.heap.size w w' := by
 have HS : Hid (∀ i, i < n → (Y i).small 1048576) := hs
 have hmk := make_rows (P := Tryz.prog) 35 96 _ 120 5 Tryz.underlying35 infoWay n (by omega) (by omega)
 have hf0 : WsOwn (w.alloc (.cells (mk0 (.agg #[.slice none 0 0, .slice none 0 0, .slice none 0 0, .slice none 0 0, .slice none 0 0]) (n * 5)) 96)) w.heap.size n 0 Y (fun _ => w.heap.size + 1) :=
  ⟨_, Box.new w 96 _, size_madeCells _ _, by simp, by simp, fun _ _ _ _ => Nat.le_refl _, fun i hi => absurd hi (Nat.not_lt_zero _)⟩
 clear hs
 go_enter Tryz.func39, Tryz.ntmps39
 go_wp2_with fail
 go_loopw [4] (fun i wr => ∃ (k : Nat) (lo : Nat → Nat), k ≤ n ∧ i = .int .i64 k ∧ Hid (WsOwn wr w.heap.size n k Y lo) ∧ Below w.heap.size w wr) (fun i _ => n - (intOf i).toNat)
 case atStart => exact ⟨0, _, Nat.zero_le _, rfl, hf0, bel1 _ _⟩
 case round =>
  obtain ⟨k, lo, hk, rfl, HT, hbel⟩ := hrel
  clear hf0 hmk
  by_cases hlt : k < n
  ·
   obtain ⟨b, off, rfl, _, hb, hc⟩ := (hR.mono nr hbel nr) (by omega)
   obtain ⟨sa, sc, la, lc, fa, fc, oa, oc, ma, mc, c0, c1, c2, c3, c4, hin⟩ := hc k hlt
   have HIN : Hid (WyIn 0 wr (Y k) sa la fa oa ma) := hin
   clear hc hin
   go_wp2_with fail
   clear c0 c1 c2 c3 c4
   refine (toWay (Y k) sa la fa oa ma sc lc fc oc mc _ (HS.out k hlt) HIN.out).mono ?_
   rintro e w1 ⟨b1, b2, b3, b4, b5, rfl, ho, hb1⟩
   obtain ⟨lo', hst⟩ := HT.out.step hlt hb1 ho
   obtain ⟨vs, h1, h2, _⟩ := HT.out.mono hb1 nr
   have d : ∀ j, j < 5 → ∃ v, w1.cell? ⟨w.heap.size, k * 5 + j, none⟩ = some v := fun j hj => ⟨vs[k * 5 + j]'(by omega), by rw [h1.cell]; exact Array.getElem?_eq_getElem _⟩
   obtain ⟨v0, d0⟩ := d 0 (by omega)
   obtain ⟨v1, d1⟩ := d 1 (by omega)
   obtain ⟨v2, d2⟩ := d 2 (by omega)
   obtain ⟨v3, d3⟩ := d 3 (by omega)
   obtain ⟨v4, d4⟩ := d 4 (by omega)
   rw [Nat.add_zero] at d0
   have f0 := h1.free (k * 5)
   have f1 := h1.free (k * 5 + 1)
   have f2 := h1.free (k * 5 + 2)
   have f3 := h1.free (k * 5 + 3)
   have f4 := h1.free (k * 5 + 4)
   have HST : Hid (WsOwn _ w.heap.size n (k + 1) Y lo') := hst
   have hbel1 := hbel.trans (hb1.mono hbel.size)
   clear d hst h1 h2 HIN HT ho hb1
   go_wp2_with fail
   go_roundw
   case rel => exact ⟨k + 1, lo', by omega, by go_num, HST, ((((hbel1.setCell nr _).setCell nr _).setCell nr _).setCell nr _).setCell nr _⟩
   case measure => simp [intOf]; omega
  ·
   obtain rfl : k = n := by omega
   go_wp2
   go_ret
   exact ⟨_, lo, rfl, rfl, HT.out, hbel⟩
end Go.Proofs.YtlgapgajgpilgaaGreatDoor
namespace Go.Proofs.YtlgapgajgpilgaaGreatDoor
open Go.RowKit
def BsOwn (w : World) (b n k : Nat) (K : Nat → Nat) (T : Nat → Nat → Bool) (r : Nat → Nat) : Prop :=
 ∃ vs : Array Value, Box w b 27 vs ∧ vs.size = n ∧ ∀ i, i < k → vs[i]? = some (.slice (some ⟨r i, 0, none⟩) (K i) (K i)) ∧ VOwn (r i) 4 1 w (.slice (some ⟨r i, 0, none⟩) (K i) (K i)) (K i) (boolF (T i)) ∧ b < r i ∧ ∀ j, j < i → r j < r i
theorem BsOwn.mono {w w' : World} {b n k N : Nat} {K : Nat → Nat} {T : Nat → Nat → Bool} {r : Nat → Nat} (h : BsOwn w b n k K T r) (hb : Below N w w') (hN : w.heap.size ≤ N) : BsOwn w' b n k K T r := by
 obtain ⟨vs, h1, h2, h3⟩ := h
 refine ⟨vs, h1.mono hb hN, h2, fun i hi => ?_⟩
 obtain ⟨e1, e2, e3⟩ := h3 i hi
 exact ⟨e1, e2.mono nr hb hN, e3⟩
theorem BsOwn.at {w : World} {b n C : Nat} {K : Nat → Nat} {T : Nat → Nat → Bool} {r : Nat → Nat} (h : BsOwn w b n n K T r) (hC : C ≤ b) : BsAt C w (some ⟨b, 0, none⟩) n K T := by
 obtain ⟨vs, h1, h2, h3⟩ := h
 intro _
 refine ⟨b, 0, rfl, hC, h1.lt, fun i hi => ?_⟩
 obtain ⟨e1, e2, e3, e4⟩ := h3 i hi
 exact ⟨_, _, by rw [Nat.zero_add, h1.cell, e1], e2.vs.le (by omega)⟩
theorem BsOwn.step {w w1 : World} {b n k : Nat} {K : Nat → Nat} {T : Nat → Nat → Bool} {r : Nat → Nat} {b1 : Nat} (h : BsOwn w b n k K T r) (hk : k < n) (hb : Below w.heap.size w w1) (h1b : b1 = w.heap.size) (ho : VOwn b1 4 1 w1 (.slice (some ⟨b1, 0, none⟩) (K k) (K k)) (K k) (boolF (T k))) (hr : ∀ i, i < k → r i < w.heap.size) :
  BsOwn (w1.setCell ⟨b, k, none⟩ (.slice (some ⟨b1, 0, none⟩) (K k) (K k))) b n (k + 1) K T (fun i => if i < k then r i else b1) := by
 have hbw : b < w.heap.size := by obtain ⟨_, h1, _⟩ := h; exact h1.lt
 obtain ⟨vs, h1, h2, h3⟩ := h.mono hb nr
 have hkeep : ∀ g, g ≠ b → (w1.setCell ⟨b, k, none⟩ (.slice (some ⟨b1, 0, none⟩) (K k) (K k))).heap[g]? = w1.heap[g]? := fun g hg => Below.heap_setCell _ _ _ _ hg
 refine ⟨_, h1.set k _, by simp only [Array.size_setIfInBounds]; exact h2, fun i hi => ?_⟩
 by_cases e : i = k
 ·
  subst e
  simp only [Nat.lt_irrefl, if_false]
  refine ⟨by simp [Array.getElem?_setIfInBounds]; omega, ho.keep nr fun g hg => hkeep g ?_, by omega, fun j hj => ?_⟩
  ·
   simp only [Value.ownBlock, Option.some.injEq] at hg
   omega
  ·
   rw [if_pos hj, h1b]
   exact hr j hj
 ·
  have hik : i < k := by omega
  simp only [hik, if_true]
  obtain ⟨e1, e2, e3, e4⟩ := h3 i hik
  refine ⟨?_, e2.keep nr fun g hg => hkeep g ?_, e3, fun j hj => ?_⟩
  ·
   simp only [Array.getElem?_setIfInBounds, show ¬ k = i by omega, if_false]
   exact e1
  ·
   simp only [Value.ownBlock, Option.some.injEq] at hg
   omega
  ·
   rw [if_pos (by omega)]
   exact e4 j hj
set_option maxRecDepth 100000 in
set_option maxHeartbeats 4000000 in
theorem toBoolSS (a : Option Addr) (n cap : Nat) (K : Nat → Nat) (T : Nat → Nat → Bool) (w : World) (hn : n ≤ 1048576) (hR : BsAt 0 w a n K T) (hs : ∀ i, i < n → K i ≤ 1048576) :
  Calls Tryz.prog 40 #[.slice a n cap] w fun e w' => ∃ b r, b = w.heap.size ∧ e = .returned (.slice (some ⟨b, 0, none⟩) n n) ∧ BsOwn w' b n n K T r ∧ Below w.heap.size w w' := by
 have HS : Hid (∀ i, i < n → K i ≤ 1048576) := hs
 have hmk := make_rows (P := Tryz.prog) 24 27 _ 24 1 Tryz.underlying24 infoRow n (by omega) (by omega)
 have hf0 : BsOwn (w.alloc (.cells (mk0 (.slice none 0 0) (n * 1)) 27)) w.heap.size n 0 K T (fun _ => 0) :=
  ⟨_, Box.new w 27 _, (size_madeCells _ _).trans (Nat.mul_one n), fun i hi => absurd hi (Nat.not_lt_zero _)⟩
 have hf1 : BsOwn (w.alloc (.cells (mk0 (.slice none 0 0) n) 27)) w.heap.size n 0 K T (fun _ => 0) := by simpa only [Nat.mul_one] using hf0
 clear hs hf0
 go_enter Tryz.func40, Tryz.ntmps40
 go_wp2_with fail
 go_loopw [4] (fun i wr => ∃ (k : Nat) (r : Nat → Nat), k ≤ n ∧ i = .int .i64 k ∧ Hid (BsOwn wr w.heap.size n k K T r) ∧ Hid (∀ i, i < k → r i < wr.heap.size) ∧ Below w.heap.size w wr) (fun i _ => n - (intOf i).toNat)
 case atStart => exact ⟨0, fun _ => 0, Nat.zero_le _, rfl, hf1, fun i hi => absurd hi (Nat.not_lt_zero _), bel1 _ _⟩
 case round =>
  obtain ⟨k, r, hk, rfl, HT, HR, hbel⟩ := hrel
  clear hf1 hmk
  by_cases hlt : k < n
  ·
   obtain ⟨b, off, rfl, _, hb, hc⟩ := (hR.mono nr hbel nr) (by omega)
   obtain ⟨ra, rc, c0, hin⟩ := hc k hlt
   have HIN : Hid (VsAt 1 0 wr ra (K k) (boolF (T k))) := hin
   clear hc hin
   go_wp2_with fail
   clear c0
   refine (toBoolS ra (K k) rc (T k) _ (HS.out k hlt) HIN.out).mono ?_
   rintro e w1 ⟨b1, h1b, rfl, ho, hb1⟩
   have hst := HT.out.step hlt hb1 h1b ho HR.out
   obtain ⟨vs, h1, h2, _⟩ := HT.out.mono hb1 nr
   obtain ⟨v0, d0⟩ : ∃ v, w1.cell? ⟨w.heap.size, k, none⟩ = some v := ⟨vs[k]'(by omega), by rw [h1.cell]; exact Array.getElem?_eq_getElem _⟩
   have f0 := h1.free k
   have HST : Hid (BsOwn _ w.heap.size n (k + 1) K T (fun i => if i < k then r i else b1)) := hst
   have hz1 : b1 < w1.heap.size := (ho.lt rfl).2
   have HR2 : Hid (∀ i, i < k + 1 → (if i < k then r i else b1) < w1.heap.size) := fun i hi => by
    by_cases e : i < k
    ·
     rw [if_pos e]
     exact Nat.lt_of_lt_of_le (HR.out i e) hb1.size
    ·
     rw [if_neg e]
     exact hz1
   have hbel1 := hbel.trans (hb1.mono hbel.size)
   clear hst h1 h2 HIN HT ho hb1 h1b HR hz1
   go_wp2_with fail
   go_roundw
   case rel => exact ⟨k + 1, _, by omega, by go_num, HST, fun i hi => by rw [size_setc]; exact HR2.out i hi, hbel1.setCell nr _⟩
   case measure => simp [intOf]; omega
  ·
   obtain rfl : k = n := by omega
   go_wp2
   go_ret
   exact ⟨_, r, rfl, rfl, HT.out, hbel⟩
end Go.Proofs.YtlgapgajgpilgaaGreatDoor
namespace Go.Proofs.YtlgapgajgpilgaaGreatDoor
open Go.RowKit
theorem WsOwn.keep {w w' : World} {b n k : Nat} {Y : Nat → Wy} {lo : Nat → Nat} (h : WsOwn w b n k Y lo) (hs : w.heap.size ≤ w'.heap.size) (hk : ∀ g, b ≤ g → w'.heap[g]? = w.heap[g]?) : WsOwn w' b n k Y lo := by
 obtain ⟨vs, h1, h2, h3, h4, h5, h6⟩ := h
 refine ⟨vs, h1.keep (hk b nr), h2, h3, Nat.le_trans h4 hs, h5, fun i hi => ?_⟩
 obtain ⟨b1, b2, b3, b4, b5, hr⟩ := h6 i hi
 exact ⟨b1, b2, b3, b4, b5, hr.keep fun g hg _ => hk g (by have := h5 0 i (Nat.zero_le _) (by omega); omega)⟩
theorem BsOwn.keep {w w' : World} {b n k : Nat} {K : Nat → Nat} {T : Nat → Nat → Bool} {r : Nat → Nat} (h : BsOwn w b n k K T r) (hk : ∀ g, b ≤ g → w'.heap[g]? = w.heap[g]?) : BsOwn w' b n k K T r := by
 obtain ⟨vs, h1, h2, h3⟩ := h
 refine ⟨vs, h1.keep (hk b nr), h2, fun i hi => ?_⟩
 obtain ⟨e1, e2, e3, e4⟩ := h3 i hi
 exact ⟨e1, e2.keep nr fun g hg => hk g (by simp only [Value.ownBlock, Option.some.injEq] at hg; omega), e3, e4⟩
structure PlOwn (C : Nat) (w : World) (p : Pl) (wb yb bb : Nat) (lo r : Nat → Nat) : Prop where
 c1 : C ≤ wb
 c2 : wb < yb
 c3 : lo p.ny ≤ bb
 sw : VOwn wb 3 1 w (.slice (some ⟨wb, 0, none⟩) p.nw p.nw) p.nw (oneF p.W)
 wy : WsOwn w yb p.ny p.ny p.Y lo
 br : BsOwn w bb p.nb p.nb p.K p.T r
theorem WsOwn.lo0 {w : World} {b n k : Nat} {Y : Nat → Wy} {lo : Nat → Nat} (h : WsOwn w b n k Y lo) : b < lo k := by
 obtain ⟨vs, h1, h2, h3, h4, h5, h6⟩ := h
 exact Nat.lt_of_lt_of_le h3 (h5 0 k (Nat.zero_le _) nr)
theorem PlOwn.keep {C C' : Nat} {w w' : World} {p : Pl} {wb yb bb : Nat} {lo r : Nat → Nat} (h : PlOwn C w p wb yb bb lo r) (hC : C' ≤ C) (hs : w.heap.size ≤ w'.heap.size) (hk : ∀ g, C ≤ g → w'.heap[g]? = w.heap[g]?) : PlOwn C' w' p wb yb bb lo r := by
 have h1 := h.c1
 have h2 := h.c2
 have h3 := h.c3
 have h4 := h.wy.lo0
 exact ⟨by omega, h2, h3, h.sw.keep nr fun g hg => hk g (by simp only [Value.ownBlock, Option.some.injEq] at hg; omega), h.wy.keep hs fun g hg => hk g (by omega), h.br.keep fun g hg => hk g (by omega)⟩
theorem PlOwn.mono {C C' : Nat} {w w' : World} {p : Pl} {wb yb bb B : Nat} {lo r : Nat → Nat} (h : PlOwn C w p wb yb bb lo r) (hC : C' ≤ C) (hb : Below B w w') (hB : w.heap.size ≤ B) : PlOwn C' w' p wb yb bb lo r :=
 ⟨Nat.le_trans hC h.c1, h.c2, h.c3, h.sw.mono nr hb hB, h.wy.mono hb hB, h.br.mono hb hB⟩
theorem PlOwn.in {C C' : Nat} {w : World} {p : Pl} {wb yb bb : Nat} {lo r : Nat → Nat} (h : PlOwn C w p wb yb bb lo r) (hC : C' ≤ C) : PlIn C' w p (some ⟨wb, 0, none⟩) (some ⟨yb, 0, none⟩) (some ⟨bb, 0, none⟩) := by
 have h1 := h.c1
 have h2 := h.c2
 have h3 := h.c3
 have h4 := h.wy.lo0
 exact ⟨h.sw.vs.le (by omega), h.wy.at (by omega), h.br.at (by omega)⟩
set_option maxRecDepth 100000 in
set_option maxHeartbeats 4000000 in
theorem toPlan (p : Pl) (wa ya ba : Option Addr) (wc yc bc : Nat) (w : World) (hs : p.small) (h : PlIn 0 w p wa ya ba) :
  Calls Tryz.prog 10 #[.agg #[.int .i64 p.sec, .slice wa p.nw wc, .slice ya p.ny yc, .slice ba p.nb bc, .int .i64 p.hold]] w fun e w' => ∃ wb yb bb lo r, e = .returned (.agg #[.int .i64 p.sec, .slice (some ⟨wb, 0, none⟩) p.nw p.nw, .slice (some ⟨yb, 0, none⟩) p.ny p.ny, .slice (some ⟨bb, 0, none⟩) p.nb p.nb, .int .i64 p.hold]) ∧ PlOwn w.heap.size w' p wb yb bb lo r ∧ Below w.heap.size w w' := by
 obtain ⟨s1, s2, s3, s4, s5⟩ := hs
 have HS : Hid ((∀ i, i < p.ny → (p.Y i).small 1048576) ∧ ∀ i, i < p.nb → p.K i ≤ 1048576) := ⟨s3, s5⟩
 have H : Hid (PlIn 0 w p wa ya ba) := h
 clear h s3 s5
 go_enter Tryz.func10, Tryz.ntmps10
 go_wp2_with fail
 have A0 : Box (w.alloc (.cells #[.int .i64 p.sec, .slice wa p.nw wc, .slice ya p.ny yc, .slice ba p.nb bc, .int .i64 p.hold] 26)) w.heap.size 26 #[.int .i64 p.sec, .slice wa p.nw wc, .slice ya p.ny yc, .slice ba p.nb bc, .int .i64 p.hold] := Box.new w 26 _
 have R0 : Box ((w.alloc (.cells #[.int .i64 p.sec, .slice wa p.nw wc, .slice ya p.ny yc, .slice ba p.nb bc, .int .i64 p.hold] 26)).alloc (.cells #[.int .i64 0, .slice none 0 0, .slice none 0 0, .slice none 0 0, .int .i64 0] 37)) (w.heap.size + 1) 37 #[.int .i64 0, .slice none 0 0, .slice none 0 0, .slice none 0 0, .int .i64 0] := by have := Box.new (w.alloc (.cells #[.int .i64 p.sec, .slice wa p.nw wc, .slice ya p.ny yc, .slice ba p.nb bc, .int .i64 p.hold] 26)) 37 #[.int .i64 0, .slice none 0 0, .slice none 0 0, .slice none 0 0, .int .i64 0]; simpa using this
 have O1 : Box (((w.alloc (.cells #[.int .i64 p.sec, .slice wa p.nw wc, .slice ya p.ny yc, .slice ba p.nb bc, .int .i64 p.hold] 26)).alloc (.cells #[.int .i64 0, .slice none 0 0, .slice none 0 0, .slice none 0 0, .int .i64 0] 37)).alloc (.cells #[.int .i64 p.sec, .slice none 0 0, .slice none 0 0, .slice none 0 0, .int .i64 0] 37)) (w.heap.size + 1 + 1) 37 #[.int .i64 p.sec, .slice none 0 0, .slice none 0 0, .slice none 0 0, .int .i64 0] := by have := Box.new ((w.alloc (.cells #[.int .i64 p.sec, .slice wa p.nw wc, .slice ya p.ny yc, .slice ba p.nb bc, .int .i64 p.hold] 26)).alloc (.cells #[.int .i64 0, .slice none 0 0, .slice none 0 0, .slice none 0 0, .int .i64 0] 37)) 37 #[.int .i64 p.sec, .slice none 0 0, .slice none 0 0, .slice none 0 0, .int .i64 0]; simpa using this
 have A1 := (A0.alloc (.cells #[.int .i64 0, .slice none 0 0, .slice none 0 0, .slice none 0 0, .int .i64 0] 37)).alloc (.cells #[.int .i64 p.sec, .slice none 0 0, .slice none 0 0, .slice none 0 0, .int .i64 0] 37)
 have R1 := R0.alloc (.cells #[.int .i64 p.sec, .slice none 0 0, .slice none 0 0, .slice none 0 0, .int .i64 0] 37)
 have B1 : Below w.heap.size w (((w.alloc (.cells #[.int .i64 p.sec, .slice wa p.nw wc, .slice ya p.ny yc, .slice ba p.nb bc, .int .i64 p.hold] 26)).alloc (.cells #[.int .i64 0, .slice none 0 0, .slice none 0 0, .slice none 0 0, .int .i64 0] 37)).alloc (.cells #[.int .i64 p.sec, .slice none 0 0, .slice none 0 0, .slice none 0 0, .int .i64 0] 37)) := bel3 w _ _ _
 clear A0 R0
 refine (toIntS wa p.nw wc p.W _ s1 (H.out.sw.mono nr B1 nr)).mono ?_
 rintro e w1 ⟨wb, hb1, rfl, o1, hl1⟩
 have A11 := A1.mono hl1 nr
 have R11 := R1.mono hl1 nr
 have O11 := O1.mono hl1 nr
 have B11 := B1.trans (hl1.mono B1.size)
 have hk1 : w.heap.size + 1 + 1 < wb := by rw [hb1]; simp
 have hz1 : wb < w1.heap.size := (o1.lt rfl).2
 clear hl1 hb1 A1 R1 O1 B1
 have xa1 : w1.cell? ⟨w.heap.size, 2, none⟩ = some _ := A11.cell 2
 have xo1 := O11.cel 1
 have xf1 := O11.free 1
 have HH1 : Hid (Box w1 w.heap.size 26 _ ∧ Box w1 (w.heap.size + 1) 37 _ ∧ Box w1 (w.heap.size + 1 + 1) 37 _ ∧ Below w.heap.size w w1) := ⟨A11, R11, O11, B11⟩
 have P1_1 : Hid (VOwn wb 3 1 w1 (.slice (some ⟨wb, 0, none⟩) p.nw p.nw) p.nw (oneF p.W)) := o1
 clear A11 R11 O11 B11 o1
 go_wp2_with fail
 obtain ⟨A11, R11, O11, B11⟩ := HH1.out
 have A2 := A11.other (p := ⟨w.heap.size + 1 + 1, 1, none⟩) (by show w.heap.size ≠ w.heap.size + 1 + 1; omega) (.slice (some ⟨wb, 0, none⟩) p.nw p.nw)
 have R2 := R11.other (p := ⟨w.heap.size + 1 + 1, 1, none⟩) (by show w.heap.size + 1 ≠ w.heap.size + 1 + 1; omega) (.slice (some ⟨wb, 0, none⟩) p.nw p.nw)
 have O2 := O11.set 1 (.slice (some ⟨wb, 0, none⟩) p.nw p.nw)
 have B2 := B11.setCell (p := ⟨w.heap.size + 1 + 1, 1, none⟩) (by show w.heap.size ≤ w.heap.size + 1 + 1; omega) (.slice (some ⟨wb, 0, none⟩) p.nw p.nw)
 have o1 := P1_1.out.keep nr (fun g hg => Below.heap_setCell w1 ⟨w.heap.size + 1 + 1, 1, none⟩ (.slice (some ⟨wb, 0, none⟩) p.nw p.nw) g (by simp only [Value.ownBlock, Option.some.injEq] at hg; show g ≠ w.heap.size + 1 + 1; omega))
 clear HH1 A11 R11 O11 B11 xa1 xo1 xf1 P1_1
 refine (toWayS ya p.ny yc p.Y _ s2 (H.out.wy.mono nr B2 nr) HS.out.1).mono ?_
 rintro e w2 ⟨yb, lo, hb2, rfl, o2, hl2⟩
 have A12 := A2.mono hl2 nr
 have R12 := R2.mono hl2 nr
 have O12 := O2.mono hl2 nr
 have B12 := B2.trans (hl2.mono B2.size)
 have o1 := o1.mono nr hl2 nr
 have hk2 : wb < yb := by rw [hb2, size_setc]; exact hz1
 have hz2 : lo p.ny ≤ w2.heap.size := by obtain ⟨_, _, _, _, h4, _⟩ := o2; exact h4
 clear hl2 hb2 A2 R2 O2 B2 hz1
 have xa2 : w2.cell? ⟨w.heap.size, 3, none⟩ = some _ := A12.cell 3
 have xo2 := O12.cel 2
 have xf2 := O12.free 2
 have HH2 : Hid (Box w2 w.heap.size 26 _ ∧ Box w2 (w.heap.size + 1) 37 _ ∧ Box w2 (w.heap.size + 1 + 1) 37 _ ∧ Below w.heap.size w w2) := ⟨A12, R12, O12, B12⟩
 have P2_1 : Hid (VOwn wb 3 1 w2 (.slice (some ⟨wb, 0, none⟩) p.nw p.nw) p.nw (oneF p.W)) := o1
 have P2_2 : Hid (WsOwn w2 yb p.ny p.ny p.Y lo) := o2
 clear A12 R12 O12 B12 o1 o2
 go_wp2_with fail
 obtain ⟨A12, R12, O12, B12⟩ := HH2.out
 have A3 := A12.other (p := ⟨w.heap.size + 1 + 1, 2, none⟩) (by show w.heap.size ≠ w.heap.size + 1 + 1; omega) (.slice (some ⟨yb, 0, none⟩) p.ny p.ny)
 have R3 := R12.other (p := ⟨w.heap.size + 1 + 1, 2, none⟩) (by show w.heap.size + 1 ≠ w.heap.size + 1 + 1; omega) (.slice (some ⟨yb, 0, none⟩) p.ny p.ny)
 have O3 := O12.set 2 (.slice (some ⟨yb, 0, none⟩) p.ny p.ny)
 have B3 := B12.setCell (p := ⟨w.heap.size + 1 + 1, 2, none⟩) (by show w.heap.size ≤ w.heap.size + 1 + 1; omega) (.slice (some ⟨yb, 0, none⟩) p.ny p.ny)
 have o1 := P2_1.out.keep nr (fun g hg => Below.heap_setCell w2 ⟨w.heap.size + 1 + 1, 2, none⟩ (.slice (some ⟨yb, 0, none⟩) p.ny p.ny) g (by simp only [Value.ownBlock, Option.some.injEq] at hg; show g ≠ w.heap.size + 1 + 1; omega))
 have o2 := P2_2.out.keep (Nat.le_of_eq (size_setc w2 ⟨w.heap.size + 1 + 1, 2, none⟩ (.slice (some ⟨yb, 0, none⟩) p.ny p.ny)).symm) (fun g hg => Below.heap_setCell w2 ⟨w.heap.size + 1 + 1, 2, none⟩ (.slice (some ⟨yb, 0, none⟩) p.ny p.ny) g (by show g ≠ w.heap.size + 1 + 1; omega))
 clear HH2 A12 R12 O12 B12 xa2 xo2 xf2 P2_1 P2_2
 refine (toBoolSS ba p.nb bc p.K p.T _ s4 (H.out.br.mono nr B3 nr) HS.out.2).mono ?_
 rintro e w3 ⟨bb, r, hb3, rfl, o3, hl3⟩
 have A13 := A3.mono hl3 nr
 have R13 := R3.mono hl3 nr
 have O13 := O3.mono hl3 nr
 have B13 := B3.trans (hl3.mono B3.size)
 have o1 := o1.mono nr hl3 nr
 have o2 := o2.mono hl3 nr
 have hk3 : lo p.ny ≤ bb := by rw [hb3, size_setc]; exact hz2
 clear hl3 hb3 A3 R3 O3 B3 hz2
 have xa3 : w3.cell? ⟨w.heap.size, 4, none⟩ = some _ := A13.cell 4
 have xo3 := O13.cel 3
 have xf3 := O13.free 3
 have xo0 := O13.cel 0
 have xo1 := O13.cel 1
 have xo2 := O13.cel 2
 have xo4 := O13.cel 4
 have xf4 := O13.free 4
 have xr0 := R13.cel 0
 have xg0 := R13.free 0
 have xr1 := R13.cel 1
 have xg1 := R13.free 1
 have xr2 := R13.cel 2
 have xg2 := R13.free 2
 have xr3 := R13.cel 3
 have xg3 := R13.free 3
 have xr4 := R13.cel 4
 have xg4 := R13.free 4
 have HH3 : Hid (Box w3 w.heap.size 26 _ ∧ Box w3 (w.heap.size + 1) 37 _ ∧ Box w3 (w.heap.size + 1 + 1) 37 _ ∧ Below w.heap.size w w3) := ⟨A13, R13, O13, B13⟩
 have P3_1 : Hid (VOwn wb 3 1 w3 (.slice (some ⟨wb, 0, none⟩) p.nw p.nw) p.nw (oneF p.W)) := o1
 have P3_2 : Hid (WsOwn w3 yb p.ny p.ny p.Y lo) := o2
 have P3_3 : Hid (BsOwn w3 bb p.nb p.nb p.K p.T r) := o3
 clear A13 R13 O13 B13 o1 o2 o3
 go_wp2_with fail
 refine bodyPost_ret (v := .agg #[.int .i64 p.sec, .slice (some ⟨wb, 0, none⟩) p.nw p.nw, .slice (some ⟨yb, 0, none⟩) p.ny p.ny, .slice (some ⟨bb, 0, none⟩) p.nb p.nb, .int .i64 p.hold]) (by simp [results, Tryz.results10, go_sem, xr0, xr1, xr2, xr3, xr4]) rfl ⟨wb, yb, bb, lo, r, rfl, ?_, ?_⟩
 ·
  have h4 := P3_2.out.lo0
  have hQ : PlOwn (w.heap.size + 1 + 1 + 1) w3 p wb yb bb lo r := ⟨by omega, hk2, hk3, P3_1.out, P3_2.out, P3_3.out⟩
  refine hQ.keep (by omega) (by simp [World.setCell]) fun g hg => ?_
  have h1 : g ≠ w.heap.size + 1 := by omega
  have h2 : g ≠ w.heap.size + 1 + 1 := by omega
  rw [Below.heap_setCell _ _ _ _ h1, Below.heap_setCell _ _ _ _ h1, Below.heap_setCell _ _ _ _ h1, Below.heap_setCell _ _ _ _ h1, Below.heap_setCell _ _ _ _ h1, Below.heap_setCell _ _ _ _ h2, Below.heap_setCell _ _ _ _ h2]
 ·
  obtain ⟨_, _, _, B13⟩ := HH3.out
  have h1 : w.heap.size ≤ w.heap.size + 1 := by omega
  have h2 : w.heap.size ≤ w.heap.size + 1 + 1 := by omega
  exact ((((((B13.setCell h2 _).setCell h2 _).setCell h1 _).setCell h1 _).setCell h1 _).setCell h1 _).setCell h1 _
end Go.Proofs.YtlgapgajgpilgaaGreatDoor
