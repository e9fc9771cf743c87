import Derived.Test.YtooebighlohobaaSf
namespace Go.Proofs.Ytooebighlohobaa
open Go.RowKit

/-- no list of the way is longer than a list can be -/
def Wy.fits (y : Wy) : Prop := y.ns ≤ maxLen ∧ y.nl ≤ maxLen ∧ y.nf ≤ maxLen ∧ y.no ≤ maxLen ∧ y.nm ≤ maxLen
set_option maxHeartbeats 1000000 in
theorem szWay (y : Wy) (sa la fa oa ma : Option Addr) (sc lc fc oc mc : Nat) (left : Int) (w : World) (hf : y.fits) (h0 : 0 ≤ left) (h1 : left ≤ 1048576) :
    Calls Try.prog 52 #[.agg #[.slice sa y.ns sc, .slice la y.nl lc, .slice fa y.nf fc, .slice oa y.no oc, .slice ma y.nm mc], .int .i64 left] w fun e w' => ∃ r : Int, e = .returned (.int .i64 r) ∧ r ≤ left ∧ (0 ≤ r → y.small left) ∧ Below w.heap.size w w' := by
  obtain ⟨f0, f1, f2, f3, f4⟩ := hf
  go_enter Try.func52, Try.ntmps52
  go_wp2_with fail
  refine (szIntS sa y.ns sc left _ f0 (by omega) (by omega)).mono ?_
  rintro e w1 ⟨he, hw⟩
  have hw := hw.symm
  subst hw
  obtain ⟨l1, hl1⟩ : ∃ l, l = szL left y.ns := ⟨_, rfl⟩
  rw [← hl1] at he
  subst he
  by_cases hn1 : l1 < 0
  · go_wp2_with fail
    go_ret
    exact ⟨-1, rfl, by omega, fun h => by omega, bel1 _ _⟩
  have q1 := szL_pos (left := left) (n := y.ns) (by rw [← hl1]; exact hn1)
  rw [← hl1] at q1
  have r1 : l1 ≤ left := by omega
  have p1 := q1.1
  clear hl1 q1
  go_wp2_with fail
  refine (szTurnS la y.nl lc l1 _ f1 (by omega) (by omega)).mono ?_
  rintro e w2 ⟨he, hw⟩
  have hw := hw.symm
  subst hw
  obtain ⟨l2, hl2⟩ : ∃ l, l = szL l1 y.nl := ⟨_, rfl⟩
  rw [← hl2] at he
  subst he
  by_cases hn2 : l2 < 0
  · go_wp2_with fail
    go_ret
    exact ⟨-1, rfl, by omega, fun h => by omega, bel1 _ _⟩
  have q2 := szL_pos (left := l1) (n := y.nl) (by rw [← hl2]; exact hn2)
  rw [← hl2] at q2
  have r2 : l2 ≤ l1 := by omega
  have p2 := q2.1
  clear hl2 q2
  go_wp2_with fail
  refine (szTurnS fa y.nf fc l2 _ f2 (by omega) (by omega)).mono ?_
  rintro e w3 ⟨he, hw⟩
  have hw := hw.symm
  subst hw
  obtain ⟨l3, hl3⟩ : ∃ l, l = szL l2 y.nf := ⟨_, rfl⟩
  rw [← hl3] at he
  subst he
  by_cases hn3 : l3 < 0
  · go_wp2_with fail
    go_ret
    exact ⟨-1, rfl, by omega, fun h => by omega, bel1 _ _⟩
  have q3 := szL_pos (left := l2) (n := y.nf) (by rw [← hl3]; exact hn3)
  rw [← hl3] at q3
  have r3 : l3 ≤ l2 := by omega
  have p3 := q3.1
  clear hl3 q3
  go_wp2_with fail
  refine (szIntS oa y.no oc l3 _ f3 (by omega) (by omega)).mono ?_
  rintro e w4 ⟨he, hw⟩
  have hw := hw.symm
  subst hw
  obtain ⟨l4, hl4⟩ : ∃ l, l = szL l3 y.no := ⟨_, rfl⟩
  rw [← hl4] at he
  subst he
  by_cases hn4 : l4 < 0
  · go_wp2_with fail
    go_ret
    exact ⟨-1, rfl, by omega, fun h => by omega, bel1 _ _⟩
  have q4 := szL_pos (left := l3) (n := y.no) (by rw [← hl4]; exact hn4)
  rw [← hl4] at q4
  have r4 : l4 ≤ l3 := by omega
  have p4 := q4.1
  clear hl4 q4
  go_wp2_with fail
  refine (szIntS ma y.nm mc l4 _ f4 (by omega) (by omega)).mono ?_
  rintro e w5 ⟨he, hw⟩
  have hw := hw.symm
  subst hw
  obtain ⟨l5, hl5⟩ : ∃ l, l = szL l4 y.nm := ⟨_, rfl⟩
  rw [← hl5] at he
  subst he
  by_cases hn5 : l5 < 0
  · go_wp2_with fail
    go_ret
    exact ⟨-1, rfl, by omega, fun h => by omega, bel1 _ _⟩
  have q5 := szL_pos (left := l4) (n := y.nm) (by rw [← hl5]; exact hn5)
  rw [← hl5] at q5
  have r5 : l5 ≤ l4 := by omega
  have p5 := q5.1
  clear hl5 q5
  go_wp2_with fail
  go_ret
  exact ⟨l5, rfl, by omega, fun _ => ⟨by omega, by omega, by omega, by omega, by omega⟩, bel1 _ _⟩

set_option maxHeartbeats 1000000 in
theorem szWayS (a : Option Addr) (n cap : Nat) (Y : Nat → Wy) (left : Int) (w : World) (hn : n ≤ maxLen) (h0 : 0 ≤ left) (h1 : left ≤ 1048576)
    (hJ : WsAt 0 w a n Y) (hs : ∀ i, i < n → (Y i).fits) :
    Calls Try.prog 22 #[.slice a n cap, .int .i64 left] w fun e w' =>
      ∃ r : Int, e = .returned (.int .i64 r) ∧ r ≤ left ∧ (0 ≤ r → (n : Int) ≤ left ∧ ∀ i, i < n → (Y i).small left) ∧ Below w.heap.size w w' := by
  unfold maxLen at hn
  by_cases h : left < (n : Int)
  · go_enter Try.func22, Try.ntmps22
    go_wp2
    go_ret
    exact ⟨-1, rfl, by omega, by omega, Below.refl _ _⟩
  · go_enter Try.func22, Try.ntmps22
    go_wp2_with fail
    go_loopw [1, 5] (fun l i wr => ∃ (k : Nat) (lv : Int), k ≤ n ∧ i = .int .i64 k ∧ l = .int .i64 lv ∧ 0 ≤ lv ∧ lv ≤ left ∧ Hid (∀ i, i < k → (Y i).small left) ∧ Below w.heap.size w wr)
      (fun _ i _ => n - (intOf i).toNat)
    case atStart => exact ⟨0, left - n, Nat.zero_le _, rfl, rfl, by omega, by omega, fun i hi => absurd hi (Nat.not_lt_zero _), Below.refl _ _⟩
    case round =>
      obtain ⟨k, lv, hk, rfl, rfl, hl0, hl1, Hall, hbel⟩ := hrel
      by_cases hlt : k < n
      · obtain ⟨b, off, rfl, _, hb, hc⟩ := (hJ.mono (Nat.le_refl _) hbel (Nat.le_refl _)) (by omega)
        obtain ⟨sa, sc, la, lc, fa, fc, oa, oc, ma, mc, c0, c1, c2, c3, c4, _⟩ := hc k hlt
        have hsz := hs k hlt
        clear hc
        go_wp2_with fail
        refine (szWay (Y k) sa la fa oa ma sc lc fc oc mc lv _ hsz hl0 (by omega)).mono ?_
        rintro e w1 ⟨r, rfl, hr1, hr2, hb1⟩
        have hb2 : Below w.heap.size w w1 := hbel.trans (hb1.mono hbel.size)
        by_cases hneg : r < 0
        · go_wp2
          go_ret
          exact ⟨-1, rfl, by omega, by omega, hb2⟩
        · obtain ⟨s1, s2, s3, s4, s5⟩ := hr2 (by omega)
          have Hr : Hid (∀ i, i < k + 1 → (Y i).small left) := by
            intro i hi
            by_cases e : i = k
            · subst e
              exact ⟨by omega, by omega, by omega, by omega, by omega⟩
            · exact Hall.out i (by omega)
          clear hr2 Hall
          go_wp2
          go_roundw
          case rel => exact ⟨k + 1, r, by omega, by go_num, rfl, by omega, by omega, Hr, hb2⟩
          case measure => simp [intOf]; omega
      · obtain rfl : k = n := by omega
        go_wp2
        go_ret
        exact ⟨lv, rfl, by omega, fun _ => ⟨by omega, Hall.out⟩, hbel⟩

set_option maxHeartbeats 1000000 in
theorem szBoolSS (a : Option Addr) (n cap : Nat) (K : Nat → Nat) (T : Nat → Nat → Bool) (left : Int) (w : World) (hn : n ≤ maxLen) (h0 : 0 ≤ left) (h1 : left ≤ 1048576)
    (hJ : BsAt 0 w a n K T) (hs : ∀ i, i < n → K i ≤ maxLen) :
    Calls Try.prog 23 #[.slice a n cap, .int .i64 left] w fun e w' =>
      ∃ r : Int, e = .returned (.int .i64 r) ∧ r ≤ left ∧ (0 ≤ r → (n : Int) ≤ left ∧ ∀ i, i < n → (K i : Int) ≤ left) ∧ Below w.heap.size w w' := by
  unfold maxLen at hn
  by_cases h : left < (n : Int)
  · go_enter Try.func23, Try.ntmps23
    go_wp2
    go_ret
    exact ⟨-1, rfl, by omega, by omega, Below.refl _ _⟩
  · go_enter Try.func23, Try.ntmps23
    go_wp2_with fail
    go_loopw [1, 5] (fun l i wr => ∃ (k : Nat) (lv : Int), k ≤ n ∧ i = .int .i64 k ∧ l = .int .i64 lv ∧ 0 ≤ lv ∧ lv ≤ left ∧ Hid (∀ i, i < k → (K i : Int) ≤ left) ∧ Below w.heap.size w wr)
      (fun _ i _ => n - (intOf i).toNat)
    case atStart => exact ⟨0, left - n, Nat.zero_le _, rfl, rfl, by omega, by omega, fun i hi => absurd hi (Nat.not_lt_zero _), Below.refl _ _⟩
    case round =>
      obtain ⟨k, lv, hk, rfl, rfl, hl0, hl1, Hall, hbel⟩ := hrel
      by_cases hlt : k < n
      · obtain ⟨b, off, rfl, _, hb, hc⟩ := (hJ.mono (Nat.le_refl _) hbel (Nat.le_refl _)) (by omega)
        obtain ⟨ra, rc, c0, _⟩ := hc k hlt
        have hsz := hs k hlt
        clear hc
        go_wp2_with fail
        refine (szBoolS ra (K k) rc lv _ hsz hl0 (by omega)).mono ?_
        rintro e w1 ⟨he, hw⟩
        have hw := hw.symm
        subst hw
        obtain ⟨r, hr⟩ : ∃ l, l = szL lv (K k) := ⟨_, rfl⟩
        rw [← hr] at he
        subst he
        by_cases hneg : r < 0
        · go_wp2
          go_ret
          exact ⟨-1, rfl, by omega, by omega, hbel⟩
        · have q1 := szL_pos (left := lv) (n := K k) (by rw [← hr]; exact hneg)
          rw [← hr] at q1
          have Hr : Hid (∀ i, i < k + 1 → (K i : Int) ≤ left) := by
            intro i hi
            by_cases e : i = k
            · subst e
              omega
            · exact Hall.out i (by omega)
          have r1 : r ≤ lv := by omega
          clear Hall hr q1
          go_wp2
          go_roundw
          case rel => exact ⟨k + 1, r, by omega, by go_num, rfl, by omega, by omega, Hr, hbel⟩
          case measure => simp [intOf]; omega
      · obtain rfl : k = n := by omega
        go_wp2
        go_ret
        exact ⟨lv, rfl, by omega, fun _ => ⟨by omega, Hall.out⟩, hbel⟩

/-- a plan, by its numbers -/
structure Pl where
  sec : Int
  nw : Nat
  W : Nat → Int
  ny : Nat
  Y : Nat → Wy
  nb : Nat
  K : Nat → Nat
  T : Nat → Nat → Bool
  hold : Int
def Pl.fits (p : Pl) : Prop := p.nw ≤ maxLen ∧ p.ny ≤ maxLen ∧ (∀ i, i < p.ny → (p.Y i).fits) ∧ p.nb ≤ maxLen ∧ ∀ i, i < p.nb → p.K i ≤ maxLen
/-- nothing in the plan is longer than a million -/
def Pl.small (p : Pl) : Prop := p.nw ≤ 1048576 ∧ p.ny ≤ 1048576 ∧ (∀ i, i < p.ny → (p.Y i).small 1048576) ∧ p.nb ≤ 1048576 ∧ ∀ i, i < p.nb → p.K i ≤ 1048576
/-- a plan's lists, by their slices -/
structure PlIn (C : Nat) (w : World) (p : Pl) (wa ya ba : Option Addr) : Prop where
  sw : VsAt 1 C w wa p.nw (oneF p.W)
  wy : WsAt C w ya p.ny p.Y
  br : BsAt C w ba p.nb p.K p.T
theorem PlIn.mono {C C' : Nat} {w w' : World} {p : Pl} {wa ya ba : Option Addr} {B : Nat} (h : PlIn C w p wa ya ba) (hC : C' ≤ C) (hb : Below B w w') (hB : w.heap.size ≤ B) : PlIn C' w' p wa ya ba := ⟨h.sw.mono hC hb hB, h.wy.mono hC hb hB, h.br.mono hC hb hB⟩
theorem PlIn.keep {C C' : Nat} {w w' : World} {p : Pl} {wa ya ba : Option Addr} (h : PlIn C w p wa ya ba) (hC : C' ≤ C) (hs : w.heap.size ≤ w'.heap.size) (hk : ∀ b, C ≤ b → b < w.heap.size → w'.heap[b]? = w.heap[b]?) : PlIn C' w' p wa ya ba := ⟨h.sw.keep hC hs hk, h.wy.keep hC hs hk, h.br.keep hC hs hk⟩
theorem PlIn.le {C C' : Nat} {w : World} {p : Pl} {wa ya ba : Option Addr} (h : PlIn C w p wa ya ba) (hC : C' ≤ C) : PlIn C' w p wa ya ba := h.keep hC (Nat.le_refl _) fun _ _ _ => rfl

set_option maxHeartbeats 1000000 in
theorem szPlan (p : Pl) (wa ya ba : Option Addr) (wc yc bc : Nat) (left : Int) (w : World) (hf : p.fits) (h0 : 0 ≤ left) (h1 : left ≤ 1048576) (hP : PlIn 0 w p wa ya ba) :
    Calls Try.prog 6 #[.agg #[.int .i64 p.sec, .slice wa p.nw wc, .slice ya p.ny yc, .slice ba p.nb bc, .int .i64 p.hold], .int .i64 left] w fun e w' =>
      ∃ r : Int, e = .returned (.int .i64 r) ∧ r ≤ left ∧ (0 ≤ r → p.small) ∧ Below w.heap.size w w' := by
  obtain ⟨f1, f2, f3, f4, f5⟩ := hf
  have F3 : Hid (∀ i, i < p.ny → (p.Y i).fits) := f3
  have F5 : Hid (∀ i, i < p.nb → p.K i ≤ maxLen) := f5
  clear f3 f5
  go_enter Try.func6, Try.ntmps6
  go_wp2_with fail
  have B0 := bel1 w (.cells #[.int .i64 p.sec, .slice wa p.nw wc, .slice ya p.ny yc, .slice ba p.nb bc, .int .i64 p.hold] 26)
  refine (szIntS wa p.nw wc left _ f1 h0 h1).mono ?_
  rintro e w1 ⟨he, hw⟩
  have hw := hw.symm
  subst hw
  obtain ⟨l1, hl1⟩ : ∃ l, l = szL left p.nw := ⟨_, rfl⟩
  rw [← hl1] at he
  subst he
  by_cases hn1 : l1 < 0
  · go_wp2_with fail
    go_ret
    exact ⟨-1, rfl, by omega, fun h => by omega, bel1 _ _⟩
  have q1 := szL_pos (left := left) (n := p.nw) (by rw [← hl1]; exact hn1)
  rw [← hl1] at q1
  have r1 : l1 ≤ left := by omega
  have p1 := q1.1
  clear hl1 q1
  go_wp2_with fail
  refine (szWayS ya p.ny yc p.Y l1 _ f2 (by omega) (by omega) (hP.wy.mono (Nat.le_refl _) B0 (Nat.le_refl _)) F3.out).mono ?_
  rintro e w2 ⟨l2, rfl, g1, g2, hb2⟩
  have G2 : Hid (0 ≤ l2 → (p.ny : Int) ≤ l1 ∧ ∀ i, i < p.ny → (p.Y i).small l1) := g2
  have B2 := B0.trans (hb2.mono B0.size)
  have a3 : w2.cell? ⟨w.heap.size, 3, none⟩ = some (.slice ba p.nb bc) := cell_keep hb2 (by simp) (by simp)
  clear g2 hb2 B0
  by_cases hn2 : l2 < 0
  · go_wp2_with fail
    go_ret
    exact ⟨-1, rfl, by omega, fun h => by omega, B2⟩
  go_wp2_with fail
  refine (szBoolSS ba p.nb bc p.K p.T l2 _ f4 (by omega) (by omega) (hP.br.mono (Nat.le_refl _) B2 (Nat.le_refl _)) F5.out).mono ?_
  rintro e w3 ⟨l3, rfl, g3, g4, hb3⟩
  have G4 : Hid (0 ≤ l3 → (p.nb : Int) ≤ l2 ∧ ∀ i, i < p.nb → (p.K i : Int) ≤ l2) := g4
  have B3 := B2.trans (hb3.mono B2.size)
  clear g4 hb3 B2 a3
  by_cases hn3 : l3 < 0
  · go_wp2_with fail
    go_ret
    exact ⟨-1, rfl, by omega, fun h => by omega, B3⟩
  go_wp2_with fail
  go_ret
  refine ⟨l3, rfl, by omega, fun h => ?_, B3⟩
  obtain ⟨u1, u2⟩ := G2.out (by omega)
  obtain ⟨u3, u4⟩ := G4.out h
  refine ⟨by omega, by omega, fun i hi => ?_, by omega, fun i hi => by have := u4 i hi; omega⟩
  obtain ⟨s1, s2, s3, s4, s5⟩ := u2 i hi
  exact ⟨by omega, by omega, by omega, by omega, by omega⟩

end Go.Proofs.Ytooebighlohobaa
