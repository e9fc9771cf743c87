import Derived.Test.YtpghgdnhfhdgmaaMr
import Derived.Test.YtpghgdnhfhdgmaaNi
namespace Go.Proofs.Ytpghgdnhfhdgmaa
open Go.RowKit

set_option maxRecDepth 100000 in
set_option maxHeartbeats 2000000 in
theorem szRouteS (a : Option Addr) (n cap : Nat) (R : Nat → Rt) (left : Int) (w : World) (hn : n ≤ maxLen) (h0 : 0 ≤ left) (h1 : left ≤ 1048576) (hR : RsAt 0 w a n R) (hf : ∀ i, i < n → (R i).fits) :
    Calls Try.prog 17 #[.slice a n cap, .int .i64 left] w fun e w' => ∃ k : Int, e = .returned (.int .i64 k) ∧ k ≤ left ∧ (0 ≤ k → (n : Int) ≤ left ∧ ∀ i, i < n → ((R i).sum : Int) ≤ left) ∧ Below w.heap.size w w' := by
  unfold maxLen at hn
  have HF : Hid (∀ i, i < n → (R i).fits) := hf
  clear hf
  by_cases h : left < (n : Int)
  · go_enter Try.func17, Try.ntmps17
    go_wp2
    go_ret
    exact ⟨-1, rfl, by omega, by omega, Below.refl _ _⟩
  · go_enter Try.func17, Try.ntmps17
    go_wp2_with fail
    go_loopw [1, 5] (fun l i wr => ∃ (k : Nat) (lv : Int), k ≤ n ∧ i = .int .i64 k ∧ l = .int .i64 lv ∧ 0 ≤ lv ∧ lv ≤ left ∧ Hid (∀ i, i < k → ((R i).sum : Int) ≤ left) ∧ Below w.heap.size w wr) (fun _ i _ => n - (intOf i).toNat)
    case atStart => exact ⟨0, left - n, Nat.zero_le _, rfl, rfl, by omega, by omega, fun i hi => absurd hi (Nat.not_lt_zero _), Below.refl _ _⟩
    case round =>
      obtain ⟨k, lv, hk, rfl, rfl, hl0, hl1, HA, hbel⟩ := hrel
      by_cases hlt : k < n
      · obtain ⟨b, off, rfl, _, hb, hc⟩ := (hR.mono (Nat.le_refl _) hbel (Nat.le_refl _)) (by omega)
        obtain ⟨sa, sc, la, lc, xa, xc, qa, qc, oa, oc, fa, fc, c0, c1, c2, c3, c4, c5, c6, c7, _⟩ := hc k hlt
        clear hc
        go_wp2_with fail
        refine (szRoute (R k) sa la xa qa oa fa sc lc xc qc oc fc lv _ (HF.out k hlt) hl0 (by omega)).mono ?_
        rintro e w1 ⟨r, rfl, hr1, hr2, hb1⟩
        have hb2 : Below w.heap.size w w1 := hbel.trans (hb1.mono hbel.size)
        by_cases hneg : r < 0
        · clear hr1
          go_wp2
          go_ret
          exact ⟨-1, rfl, by omega, by omega, hb2⟩
        · have hr3 := hr1 (by omega)
          have Hr : Hid (∀ i, i < k + 1 → ((R i).sum : Int) ≤ left) := by
            intro i hi
            by_cases e : i = k
            · subst e; omega
            · exact HA.out i (by omega)
          clear hr1 HA c0 c1 c2 c3 c4 c5 c6 c7
          go_wp2
          go_roundw
          case rel => exact ⟨k + 1, r, by omega, by go_num, rfl, by omega, by omega, Hr, hb2⟩
          case measure => simp [intOf]; omega
      · obtain rfl : k = n := by omega
        go_wp2
        go_ret
        exact ⟨lv, rfl, by omega, fun _ => ⟨by omega, HA.out⟩, hbel⟩

/-- eight stores into a row of cells -/
def s8 (vs : Array Value) (p : Nat) (a0 a1 a2 a3 a4 a5 a6 a7 : Value) : Array Value := (((((((vs.setIfInBounds p a0).setIfInBounds (p + 1) a1).setIfInBounds (p + 2) a2).setIfInBounds (p + 3) a3).setIfInBounds (p + 4) a4).setIfInBounds (p + 5) a5).setIfInBounds (p + 6) a6).setIfInBounds (p + 7) a7
theorem s8_size (vs : Array Value) (p : Nat) (a0 a1 a2 a3 a4 a5 a6 a7 : Value) : (s8 vs p a0 a1 a2 a3 a4 a5 a6 a7).size = vs.size := by simp [s8]
theorem s8_lo (vs : Array Value) (p : Nat) (a0 a1 a2 a3 a4 a5 a6 a7 : Value) {q : Nat} (h : q < p) : (s8 vs p a0 a1 a2 a3 a4 a5 a6 a7)[q]? = vs[q]? := by
  simp only [s8, Array.getElem?_setIfInBounds, show ¬ p = q by omega, show ¬ p + 1 = q by omega, show ¬ p + 2 = q by omega, show ¬ p + 3 = q by omega, show ¬ p + 4 = q by omega, show ¬ p + 5 = q by omega, show ¬ p + 6 = q by omega, show ¬ p + 7 = q by omega, if_false]
theorem s8_at (vs : Array Value) (p : Nat) (a0 a1 a2 a3 a4 a5 a6 a7 : Value) (h : p + 8 ≤ vs.size) : let x := s8 vs p a0 a1 a2 a3 a4 a5 a6 a7
    x[p]? = some a0 ∧ x[p + 1]? = some a1 ∧ x[p + 2]? = some a2 ∧ x[p + 3]? = some a3 ∧ x[p + 4]? = some a4 ∧ x[p + 5]? = some a5 ∧ x[p + 6]? = some a6 ∧ x[p + 7]? = some a7 := by
  simp only [s8, Array.getElem?_setIfInBounds, Array.size_setIfInBounds]
  refine ⟨?_, ?_, ?_, ?_, ?_, ?_, ?_, ?_⟩ <;> simp <;> omega

/-- one route of a row of routes, with its lists in blocks from l up to u -/
structure RtRow (w : World) (vs : Array Value) (i : Nat) (r : Rt) (l u : Nat) (b1 b2 b3 b4 b5 b6 : Nat) : Prop where
  c0 : vs[i * 8]? = some (.int .i64 r.fr)
  c1 : vs[i * 8 + 1]? = some (.int .i64 r.to)
  c2 : vs[i * 8 + 2]? = some (.slice (some ⟨b1, 0, none⟩) r.ns r.ns)
  c3 : vs[i * 8 + 3]? = some (.slice (some ⟨b2, 0, none⟩) r.nl r.nl)
  c4 : vs[i * 8 + 4]? = some (.slice (some ⟨b3, 0, none⟩) r.nx r.nx)
  c5 : vs[i * 8 + 5]? = some (.slice (some ⟨b4, 0, none⟩) r.np r.np)
  c6 : vs[i * 8 + 6]? = some (.slice (some ⟨b5, 0, none⟩) r.no r.no)
  c7 : vs[i * 8 + 7]? = some (.slice (some ⟨b6, 0, none⟩) r.nf r.nf)
  own : RtOwn l w r b1 b2 b3 b4 b5 b6
  lt : b6 < u
/-- a row of n routes of which k are there -/
def RsOwn (w : World) (b n k : Nat) (R : Nat → Rt) (lo : Nat → Nat) : Prop :=
  ∃ vs : Array Value, Box w b 36 vs ∧ vs.size = n * 8 ∧ b < lo 0 ∧ lo k ≤ w.heap.size ∧ (∀ i j, i ≤ j → j ≤ k → lo i ≤ lo j) ∧ ∀ i, i < k → ∃ b1 b2 b3 b4 b5 b6, RtRow w vs i (R i) (lo i) (lo (i + 1)) b1 b2 b3 b4 b5 b6
theorem RtOwn.keep {C : Nat} {w w' : World} {r : Rt} {b1 b2 b3 b4 b5 b6 : Nat} (h : RtOwn C w r b1 b2 b3 b4 b5 b6) (hk : ∀ g, C ≤ g → g ≤ b6 → w'.heap[g]? = w.heap[g]?) : RtOwn C w' r b1 b2 b3 b4 b5 b6 := by
  obtain ⟨h1, h2, h3, h4, h5, h6, a, b, c, d, e, f⟩ := h
  refine ⟨h1, h2, h3, h4, h5, h6, a.keep (Nat.le_refl _) ?_, b.keep (Nat.le_refl _) ?_, c.keep (Nat.le_refl _) ?_, d.keep (Nat.le_refl _) ?_, e.keep (Nat.le_refl _) ?_, f.keep (Nat.le_refl _) ?_⟩ <;>
  · intro g hg
    simp only [Value.ownBlock, Option.some.injEq] at hg
    exact hk g (by omega) (by omega)
theorem RtRow.keep {w w' : World} {vs : Array Value} {i : Nat} {r : Rt} {l u b1 b2 b3 b4 b5 b6 : Nat} (h : RtRow w vs i r l u b1 b2 b3 b4 b5 b6) (hk : ∀ g, l ≤ g → g < u → w'.heap[g]? = w.heap[g]?) : RtRow w' vs i r l u b1 b2 b3 b4 b5 b6 :=
  ⟨h.c0, h.c1, h.c2, h.c3, h.c4, h.c5, h.c6, h.c7, h.own.keep fun g h1 h2 => hk g h1 (by have := h.lt; omega), h.lt⟩
theorem RsOwn.mono {w w' : World} {b n k N : Nat} {R : Nat → Rt} {lo : Nat → Nat} (h : RsOwn w b n k R lo) (hb : Below N w w') (hN : w.heap.size ≤ N) : RsOwn w' b n k R lo := by
  obtain ⟨vs, h1, h2, h3, h4, h5, h6⟩ := h
  refine ⟨vs, h1.mono hb hN, h2, h3, Nat.le_trans h4 hb.size, h5, fun i hi => ?_⟩
  obtain ⟨b1, b2, b3, b4, b5, b6, hr⟩ := h6 i hi
  exact ⟨b1, b2, b3, b4, b5, b6, hr.keep fun g _ hg => hb.block g (by have := h5 (i + 1) k (by omega) (Nat.le_refl _); omega)⟩
theorem RsOwn.at {w : World} {b n C : Nat} {R : Nat → Rt} {lo : Nat → Nat} (h : RsOwn w b n n R lo) (hC : C ≤ b) : RsAt C w (some ⟨b, 0, none⟩) n R := by
  obtain ⟨vs, h1, h2, h3, h4, h5, h6⟩ := h
  intro _
  refine ⟨b, 0, rfl, hC, h1.lt, fun i hi => ?_⟩
  obtain ⟨b1, b2, b3, b4, b5, b6, hr⟩ := h6 i hi
  have hl : b < lo i := Nat.lt_of_lt_of_le h3 (h5 0 i (Nat.zero_le _) (by omega))
  have e := fun o => h1.cell o
  refine ⟨some ⟨b1, 0, none⟩, (R i).ns, some ⟨b2, 0, none⟩, (R i).nl, some ⟨b3, 0, none⟩, (R i).nx, some ⟨b4, 0, none⟩, (R i).np, some ⟨b5, 0, none⟩, (R i).no, some ⟨b6, 0, none⟩, (R i).nf, ?_, ?_, ?_, ?_, ?_, ?_, ?_, ?_, (hr.own.mono (C' := C) (by omega) (Below.refl w.heap.size w) (Nat.le_refl _)).rt⟩
  · rw [Nat.zero_add, e, hr.c0]
  · rw [Nat.zero_add, e, hr.c1]
  · rw [Nat.zero_add, e, hr.c2]
  · rw [Nat.zero_add, e, hr.c3]
  · rw [Nat.zero_add, e, hr.c4]
  · rw [Nat.zero_add, e, hr.c5]
  · rw [Nat.zero_add, e, hr.c6]
  · rw [Nat.zero_add, e, hr.c7]
theorem infoRoute : (Try.prog.info? 36).map (fun i => (i.zero, i.size, i.bytes)) = some (some (.agg #[.int .i64 0, .int .i64 0, .slice none 0 0, .slice none 0 0, .slice none 0 0, .slice none 0 0, .slice none 0 0, .slice none 0 0]), 8, 160) := by kernel_rfl

/-- one route more -/
theorem RsOwn.step {w w1 : World} {b n k : Nat} {R : Nat → Rt} {lo : Nat → Nat} {b1 b2 b3 b4 b5 b6 : Nat} (h : RsOwn w b n k R lo) (hk : k < n) (hb : Below w.heap.size w w1) (ho : RtOwn w.heap.size w1 (R k) b1 b2 b3 b4 b5 b6) :
    ∃ lo', RsOwn ((((((((w1.setCell ⟨b, k * 8, none⟩ (.int .i64 (R k).fr)).setCell ⟨b, k * 8 + 1, none⟩ (.int .i64 (R k).to)).setCell ⟨b, k * 8 + 2, none⟩ (.slice (some ⟨b1, 0, none⟩) (R k).ns (R k).ns)).setCell ⟨b, k * 8 + 3, none⟩ (.slice (some ⟨b2, 0, none⟩) (R k).nl (R k).nl)).setCell ⟨b, k * 8 + 4, none⟩ (.slice (some ⟨b3, 0, none⟩) (R k).nx (R k).nx)).setCell ⟨b, k * 8 + 5, none⟩ (.slice (some ⟨b4, 0, none⟩) (R k).np (R k).np)).setCell ⟨b, k * 8 + 6, none⟩ (.slice (some ⟨b5, 0, none⟩) (R k).no (R k).no)).setCell ⟨b, k * 8 + 7, none⟩ (.slice (some ⟨b6, 0, none⟩) (R k).nf (R k).nf)) b n (k + 1) R lo' := by
  have hl6 := ho.lt
  have hsz := hb.size
  obtain ⟨vs, h1, h2, h3, h4, h5, h6⟩ := h.mono hb (Nat.le_refl _)
  obtain ⟨_, _, _, _, h4w, _, _⟩ := h
  have hlo0 : lo 0 ≤ lo k := h5 0 k (Nat.zero_le _) (Nat.le_refl _)
  have hbl : b < w.heap.size := by omega
  have hBox := (((((((h1.set (k * 8) (.int .i64 (R k).fr)).set (k * 8 + 1) (.int .i64 (R k).to)).set (k * 8 + 2) (.slice (some ⟨b1, 0, none⟩) (R k).ns (R k).ns)).set (k * 8 + 3) (.slice (some ⟨b2, 0, none⟩) (R k).nl (R k).nl)).set (k * 8 + 4) (.slice (some ⟨b3, 0, none⟩) (R k).nx (R k).nx)).set (k * 8 + 5) (.slice (some ⟨b4, 0, none⟩) (R k).np (R k).np)).set (k * 8 + 6) (.slice (some ⟨b5, 0, none⟩) (R k).no (R k).no)).set (k * 8 + 7) (.slice (some ⟨b6, 0, none⟩) (R k).nf (R k).nf)
  have hkeep : ∀ g, g ≠ b → ((((((((w1.setCell ⟨b, k * 8, none⟩ (.int .i64 (R k).fr)).setCell ⟨b, k * 8 + 1, none⟩ (.int .i64 (R k).to)).setCell ⟨b, k * 8 + 2, none⟩ (.slice (some ⟨b1, 0, none⟩) (R k).ns (R k).ns)).setCell ⟨b, k * 8 + 3, none⟩ (.slice (some ⟨b2, 0, none⟩) (R k).nl (R k).nl)).setCell ⟨b, k * 8 + 4, none⟩ (.slice (some ⟨b3, 0, none⟩) (R k).nx (R k).nx)).setCell ⟨b, k * 8 + 5, none⟩ (.slice (some ⟨b4, 0, none⟩) (R k).np (R k).np)).setCell ⟨b, k * 8 + 6, none⟩ (.slice (some ⟨b5, 0, none⟩) (R k).no (R k).no)).setCell ⟨b, k * 8 + 7, none⟩ (.slice (some ⟨b6, 0, none⟩) (R k).nf (R k).nf)).heap[g]? = w1.heap[g]? := fun g hg => by
    rw [Below.heap_setCell _ _ _ _ hg, Below.heap_setCell _ _ _ _ hg, Below.heap_setCell _ _ _ _ hg, Below.heap_setCell _ _ _ _ hg, Below.heap_setCell _ _ _ _ hg, Below.heap_setCell _ _ _ _ hg, Below.heap_setCell _ _ _ _ hg, Below.heap_setCell _ _ _ _ hg]
  obtain ⟨q0, q1, q2, q3, q4, q5, q6, q7⟩ := s8_at vs (k * 8) (.int .i64 (R k).fr) (.int .i64 (R k).to) (.slice (some ⟨b1, 0, none⟩) (R k).ns (R k).ns) (.slice (some ⟨b2, 0, none⟩) (R k).nl (R k).nl) (.slice (some ⟨b3, 0, none⟩) (R k).nx (R k).nx) (.slice (some ⟨b4, 0, none⟩) (R k).np (R k).np) (.slice (some ⟨b5, 0, none⟩) (R k).no (R k).no) (.slice (some ⟨b6, 0, none⟩) (R k).nf (R k).nf) (by omega)
  refine ⟨fun i => if i ≤ k then lo i else w1.heap.size, _, hBox, by simp only [Array.size_setIfInBounds]; exact h2, by dsimp only; rw [if_pos (Nat.zero_le _)]; exact h3, by rw [size_setc, size_setc, size_setc, size_setc, size_setc, size_setc, size_setc, size_setc]; dsimp only; rw [if_neg (by omega)]; exact Nat.le_refl _, fun i j hij hj => ?_, fun i hi => ?_⟩
  · dsimp only
    by_cases e1 : j ≤ k
    · rw [if_pos e1, if_pos (by omega)]
      exact h5 i j hij e1
    · rw [if_neg e1]
      split
      · have := h5 i k (by omega) (Nat.le_refl _)
        omega
      · exact Nat.le_refl _
  · by_cases e : i = k
    · subst e
      dsimp only
      rw [if_pos (Nat.le_refl _), if_neg (by omega)]
      exact ⟨b1, b2, b3, b4, b5, b6, q0, q1, q2, q3, q4, q5, q6, q7, (ho.mono (C' := lo i) (by omega) (Below.refl w1.heap.size w1) (Nat.le_refl _)).keep fun g h7 h8 => hkeep g (by omega), hl6⟩
    · obtain ⟨c1, c2, c3, c4, c5, c6, hr⟩ := h6 i (by omega)
      have hu : lo i ≤ lo k := h5 i k (by omega) (Nat.le_refl _)
      have hl : lo 0 ≤ lo i := h5 0 i (Nat.zero_le _) (by omega)
      have e0 : ∀ j, j < 8 → (s8 vs (k * 8) (.int .i64 (R k).fr) (.int .i64 (R k).to) (.slice (some ⟨b1, 0, none⟩) (R k).ns (R k).ns) (.slice (some ⟨b2, 0, none⟩) (R k).nl (R k).nl) (.slice (some ⟨b3, 0, none⟩) (R k).nx (R k).nx) (.slice (some ⟨b4, 0, none⟩) (R k).np (R k).np) (.slice (some ⟨b5, 0, none⟩) (R k).no (R k).no) (.slice (some ⟨b6, 0, none⟩) (R k).nf (R k).nf))[i * 8 + j]? = vs[i * 8 + j]? := fun j hj => s8_lo _ _ _ _ _ _ _ _ _ _ (by omega)
      have hr2 : RtRow w1 vs i (R i) (lo i) (lo (i + 1)) c1 c2 c3 c4 c5 c6 := hr
      refine ⟨c1, c2, c3, c4, c5, c6, ⟨(e0 0 (by omega)).trans hr2.c0, (e0 1 (by omega)).trans hr2.c1, (e0 2 (by omega)).trans hr2.c2, (e0 3 (by omega)).trans hr2.c3, (e0 4 (by omega)).trans hr2.c4, (e0 5 (by omega)).trans hr2.c5, (e0 6 (by omega)).trans hr2.c6, (e0 7 (by omega)).trans hr2.c7, ?_, ?_⟩⟩
      · dsimp only
        rw [if_pos (by omega)]
        exact hr2.own.keep fun g h7 _ => hkeep g (by omega)
      · dsimp only
        rw [if_pos (by omega)]
        exact hr2.lt

set_option maxRecDepth 100000 in
set_option maxHeartbeats 4000000 in
theorem toRouteS (a : Option Addr) (n cap : Nat) (R : Nat → Rt) (w : World) (hn : n ≤ 1048576) (hR : RsAt 0 w a n R) (hs : ∀ i, i < n → (R i).small) :
    Calls Try.prog 19 #[.slice a n cap] w fun e w' => ∃ b lo, b = w.heap.size ∧ e = .returned (.slice (some ⟨b, 0, none⟩) n n) ∧ RsOwn w' b n n R lo ∧ Below w.heap.size w w' := by
  have HS : Hid (∀ i, i < n → (R i).small) := hs
  have hmk := make_rows (P := Try.prog) 49 36 _ 160 8 Try.underlying49 infoRoute n (by omega) (by omega)
  have hf0 : RsOwn (w.alloc (.cells (mk0 (.agg #[.int .i64 0, .int .i64 0, .slice none 0 0, .slice none 0 0, .slice none 0 0, .slice none 0 0, .slice none 0 0, .slice none 0 0]) (n * 8)) 36)) w.heap.size n 0 R (fun _ => w.heap.size + 1) :=
    ⟨_, Box.new w 36 _, size_madeCells _ _, by simp, by simp, fun _ _ _ _ => Nat.le_refl _, fun i hi => absurd hi (Nat.not_lt_zero _)⟩
  clear hs
  go_enter Try.func19, Try.ntmps19
  go_wp2_with fail
  go_loopw [4] (fun i wr => ∃ (k : Nat) (lo : Nat → Nat), k ≤ n ∧ i = .int .i64 k ∧ Hid (RsOwn wr w.heap.size n k R lo) ∧ Below w.heap.size w wr) (fun i _ => n - (intOf i).toNat)
  case atStart => exact ⟨0, _, Nat.zero_le _, rfl, hf0, bel1 _ _⟩
  case round =>
    obtain ⟨k, lo, hk, rfl, HT, hbel⟩ := hrel
    clear hf0 hmk
    by_cases hlt : k < n
    · obtain ⟨b, off, rfl, _, hb, hc⟩ := (hR.mono (Nat.le_refl _) hbel (Nat.le_refl _)) (by omega)
      obtain ⟨sa, sc, la, lc, xa, xc, qa, qc, oa, oc, fa, fc, c0, c1, c2, c3, c4, c5, c6, c7, hin⟩ := hc k hlt
      have HIN : Hid (RtIn 0 wr (R k) sa la xa qa oa fa) := hin
      clear hc hin
      go_wp2_with fail
      clear c0 c1 c2 c3 c4 c5 c6 c7
      refine (toRoute (R k) sa la xa qa oa fa sc lc xc qc oc fc _ (HS.out k hlt) HIN.out).mono ?_
      rintro e w1 ⟨b1, b2, b3, b4, b5, b6, rfl, ho, hb1⟩
      obtain ⟨lo', hst⟩ := HT.out.step hlt hb1 ho
      obtain ⟨vs, h1, h2, _⟩ := HT.out.mono hb1 (Nat.le_refl _)
      have d : ∀ j, j < 8 → ∃ v, w1.cell? ⟨w.heap.size, k * 8 + j, none⟩ = some v := fun j hj => ⟨vs[k * 8 + j]'(by omega), by rw [h1.cell]; exact Array.getElem?_eq_getElem _⟩
      obtain ⟨v0, d0⟩ := d 0 (by omega)
      obtain ⟨v1, d1⟩ := d 1 (by omega)
      obtain ⟨v2, d2⟩ := d 2 (by omega)
      obtain ⟨v3, d3⟩ := d 3 (by omega)
      obtain ⟨v4, d4⟩ := d 4 (by omega)
      obtain ⟨v5, d5⟩ := d 5 (by omega)
      obtain ⟨v6, d6⟩ := d 6 (by omega)
      obtain ⟨v7, d7⟩ := d 7 (by omega)
      rw [Nat.add_zero] at d0
      have f0 := h1.free (k * 8)
      have f1 := h1.free (k * 8 + 1)
      have f2 := h1.free (k * 8 + 2)
      have f3 := h1.free (k * 8 + 3)
      have f4 := h1.free (k * 8 + 4)
      have f5 := h1.free (k * 8 + 5)
      have f6 := h1.free (k * 8 + 6)
      have f7 := h1.free (k * 8 + 7)
      have HST : Hid (RsOwn _ w.heap.size n (k + 1) R lo') := hst
      have hbel1 := hbel.trans (hb1.mono hbel.size)
      clear d hst h1 h2 HIN HT ho hb1
      go_wp2_with fail
      go_roundw
      case rel => exact ⟨k + 1, lo', by omega, by go_num, HST, (((((((hbel1.setCell (Nat.le_refl _) _).setCell (Nat.le_refl _) _).setCell (Nat.le_refl _) _).setCell (Nat.le_refl _) _).setCell (Nat.le_refl _) _).setCell (Nat.le_refl _) _).setCell (Nat.le_refl _) _).setCell (Nat.le_refl _) _⟩
      case measure => simp [intOf]; omega
    · obtain rfl : k = n := by omega
      go_wp2
      go_ret
      exact ⟨_, lo, rfl, rfl, HT.out, hbel⟩

end Go.Proofs.Ytpghgdnhfhdgmaa
