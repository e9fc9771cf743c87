import Derived.Test.YtkeilejbelblcaaGreatDoorBa
namespace Go.Proofs.YtkeilejbelblcaaGreatDoor
open Go.RowKit

abbrev boolF (D : Nat → Bool) (i _j : Nat) : Value := .bool (D i)
abbrev intF (K : Nat → Nat → Int) (i j : Nat) : Value := .int .i64 (K i j)
abbrev oneF (S : Nat → Int) (i _j : Nat) : Value := .int .i64 (S i)

theorem infoInt : (Tryz.prog.info? 3).map (fun i => (i.zero, i.size, i.bytes)) = some (some (.int .i64 0), 1, 8) := by kernel_rfl
theorem infoBool : (Tryz.prog.info? 4).map (fun i => (i.zero, i.size, i.bytes)) = some (some (.bool false), 1, 1) := by kernel_rfl
theorem infoTurn : (Tryz.prog.info? 146).map (fun i => (i.zero, i.size, i.bytes)) = some (some (.agg #[.int .i64 0, .int .i64 0]), 2, 16) := by kernel_rfl
theorem infoWay : (Tryz.prog.info? 112).map (fun i => (i.zero, i.size, i.bytes)) = some (some (.agg #[.slice none 0 0, .slice none 0 0, .slice none 0 0, .slice none 0 0, .slice none 0 0]), 5, 120) := by kernel_rfl
theorem infoRow : (Tryz.prog.info? 27).map (fun i => (i.zero, i.size, i.bytes)) = some (some (.slice none 0 0), 1, 24) := by kernel_rfl

/-- a way: its five lists -/
structure Wy where
  ns : Nat
  S : Nat → Int
  nl : Nat
  L : Nat → Nat → Int
  nf : Nat
  F : Nat → Nat → Int
  no : Nat
  O : Nat → Int
  nm : Nat
  M : Nat → Int
/-- no list of the way is longer than m -/
def Wy.small (y : Wy) (m : Int) : Prop := (y.ns : Int) ≤ m ∧ (y.nl : Int) ≤ m ∧ (y.nf : Int) ≤ m ∧ (y.no : Int) ≤ m ∧ (y.nm : Int) ≤ m
/-- a way's lists, by their slices -/
structure WyIn (C : Nat) (w : World) (y : Wy) (sa la fa oa ma : Option Addr) : Prop where
  s : VsAt 1 C w sa y.ns (oneF y.S)
  l : VsAt 2 C w la y.nl (intF y.L)
  f : VsAt 2 C w fa y.nf (intF y.F)
  o : VsAt 1 C w oa y.no (oneF y.O)
  m : VsAt 1 C w ma y.nm (oneF y.M)
theorem WyIn.mono {C C' : Nat} {w w' : World} {y : Wy} {sa la fa oa ma : Option Addr} {B : Nat} (h : WyIn C w y sa la fa oa ma) (hC : C' ≤ C) (hb : Below B w w') (hB : w.heap.size ≤ B) : WyIn C' w' y sa la fa oa ma :=
  ⟨h.s.mono hC hb hB, h.l.mono hC hb hB, h.f.mono hC hb hB, h.o.mono hC hb hB, h.m.mono hC hb hB⟩
theorem WyIn.keep {C C' : Nat} {w w' : World} {y : Wy} {sa la fa oa ma : Option Addr} (h : WyIn C w y sa la fa oa ma) (hC : C' ≤ C) (hs : w.heap.size ≤ w'.heap.size) (hk : ∀ b, C ≤ b → b < w.heap.size → w'.heap[b]? = w.heap[b]?) : WyIn C' w' y sa la fa oa ma :=
  ⟨h.s.keep hC hs hk, h.l.keep hC hs hk, h.f.keep hC hs hk, h.o.keep hC hs hk, h.m.keep hC hs hk⟩
/-- a list of ways -/
def WsAt (C : Nat) (w : World) (a : Option Addr) (n : Nat) (Y : Nat → Wy) : Prop :=
  0 < n → ∃ b off, a = some ⟨b, off, none⟩ ∧ C ≤ b ∧ b < w.heap.size ∧ ∀ i, i < n → ∃ sa sc la lc fa fc oa oc ma mc,
    w.cell? ⟨b, off + i * 5, none⟩ = some (.slice sa (Y i).ns sc) ∧ w.cell? ⟨b, off + i * 5 + 1, none⟩ = some (.slice la (Y i).nl lc) ∧
    w.cell? ⟨b, off + i * 5 + 2, none⟩ = some (.slice fa (Y i).nf fc) ∧ w.cell? ⟨b, off + i * 5 + 3, none⟩ = some (.slice oa (Y i).no oc) ∧
    w.cell? ⟨b, off + i * 5 + 4, none⟩ = some (.slice ma (Y i).nm mc) ∧ WyIn C w (Y i) sa la fa oa ma
theorem WsAt.keep {C C' : Nat} {w w' : World} {a : Option Addr} {n : Nat} {Y : Nat → Wy} (h : WsAt C w a n Y) (hC : C' ≤ C) (hs : w.heap.size ≤ w'.heap.size) (hk : ∀ b, C ≤ b → b < w.heap.size → w'.heap[b]? = w.heap[b]?) : WsAt C' w' a n Y := by
  intro h0
  obtain ⟨b, off, ha, hge, hlt, hc⟩ := h h0
  refine ⟨b, off, ha, by omega, by omega, fun i hi => ?_⟩
  obtain ⟨sa, sc, la, lc, fa, fc, oa, oc, ma, mc, h1, h2, h3, h4, h5, h6⟩ := hc i hi
  have e := fun o => World.cell?_of_block (w := w) (w' := w') (a := ⟨b, o, none⟩) (hk b hge hlt)
  exact ⟨sa, sc, la, lc, fa, fc, oa, oc, ma, mc, (e _).trans h1, (e _).trans h2, (e _).trans h3, (e _).trans h4, (e _).trans h5, h6.keep hC hs hk⟩
theorem WsAt.mono {C C' : Nat} {w w' : World} {a : Option Addr} {n : Nat} {Y : Nat → Wy} {B : Nat} (h : WsAt C w a n Y) (hC : C' ≤ C) (hb : Below B w w') (hB : w.heap.size ≤ B) : WsAt C' w' a n Y :=
  h.keep hC hb.size fun b _ hlt => hb.block b (by omega)
/-- rows of truths -/
def BsAt (C : Nat) (w : World) (a : Option Addr) (n : Nat) (K : Nat → Nat) (T : Nat → Nat → Bool) : Prop :=
  0 < n → ∃ b off, a = some ⟨b, off, none⟩ ∧ C ≤ b ∧ b < w.heap.size ∧ ∀ i, i < n → ∃ ra rc, w.cell? ⟨b, off + i, none⟩ = some (.slice ra (K i) rc) ∧ VsAt 1 C w ra (K i) (boolF (T i))
theorem BsAt.keep {C C' : Nat} {w w' : World} {a : Option Addr} {n : Nat} {K : Nat → Nat} {T : Nat → Nat → Bool} (h : BsAt C w a n K T) (hC : C' ≤ C) (hs : w.heap.size ≤ w'.heap.size) (hk : ∀ b, C ≤ b → b < w.heap.size → w'.heap[b]? = w.heap[b]?) : BsAt C' w' a n K T := by
  intro h0
  obtain ⟨b, off, ha, hge, hlt, hc⟩ := h h0
  refine ⟨b, off, ha, by omega, by omega, fun i hi => ?_⟩
  obtain ⟨ra, rc, h1, h2⟩ := hc i hi
  exact ⟨ra, rc, (World.cell?_of_block (w := w) (hk b hge hlt)).trans h1, h2.keep hC hs hk⟩
theorem BsAt.mono {C C' : Nat} {w w' : World} {a : Option Addr} {n : Nat} {K : Nat → Nat} {T : Nat → Nat → Bool} {B : Nat} (h : BsAt C w a n K T) (hC : C' ≤ C) (hb : Below B w w') (hB : w.heap.size ≤ B) : BsAt C' w' a n K T :=
  h.keep hC hb.size fun b _ hlt => hb.block b (by omega)

end Go.Proofs.YtkeilejbelblcaaGreatDoor

namespace Go.Proofs.YtkeilejbelblcaaGreatDoor
open Go.RowKit

theorem eqTurn (a0 a1 : Int) (w : World) :
    Calls Tryz.prog 131 #[.agg #[.int .i64 a0, .int .i64 a1], .agg #[.int .i64 a0, .int .i64 a1]] w fun e w' => e = .returned (.bool true) ∧ Below w.heap.size w w' := by
  go_enter Tryz.func131, Tryz.ntmps131
  go_wp2
  go_ret
  exact ⟨rfl, bel2 _ _ _⟩

set_option maxHeartbeats 1000000 in
theorem eqTurnS (a a' : Option Addr) (n cap cap' : Nat) (F : Nat → Nat → Int) (w : World) (hn : n ≤ 1048576) (hE : VsAt 2 0 w a n (intF F)) (hE' : VsAt 2 0 w a' n (intF F)) :
    Calls Tryz.prog 110 #[.slice a n cap, .slice a' n cap'] w fun e w' => e = .returned (.bool true) ∧ Below w.heap.size w w' := by
  go_enter Tryz.func110, Tryz.ntmps110
  go_wp2_with fail
  go_loopw [5] (fun i wr => ∃ (k : Nat), k ≤ n ∧ i = .int .i64 k ∧ Below w.heap.size w wr) (fun i _ => n - (intOf i).toNat)
  case atStart => exact ⟨0, Nat.zero_le _, rfl, Below.refl _ _⟩
  case round =>
    obtain ⟨k, hk, rfl, hbel⟩ := hrel
    by_cases hlt : k < n
    · obtain ⟨b, off, rfl, _, hb, hc⟩ := (hE.mono (Nat.le_refl _) hbel (Nat.le_refl _)) (by omega)
      obtain ⟨b', off', rfl, _, hb', hc'⟩ := (hE'.mono (Nat.le_refl _) hbel (Nat.le_refl _)) (by omega)
      have c0 : wr.cell? ⟨b, off + k * 2, none⟩ = some (.int .i64 (F k 0)) := hc k hlt 0 (by omega)
      have c1 : wr.cell? ⟨b, off + k * 2 + 1, none⟩ = some (.int .i64 (F k 1)) := hc k hlt 1 (by omega)
      have d0 : wr.cell? ⟨b', off' + k * 2, none⟩ = some (.int .i64 (F k 0)) := hc' k hlt 0 (by omega)
      have d1 : wr.cell? ⟨b', off' + k * 2 + 1, none⟩ = some (.int .i64 (F k 1)) := hc' k hlt 1 (by omega)
      have hlt' : (k : Int) < (n : Int) := by omega
      have hk0 : (0 : Int) ≤ (k : Int) := by omega
      clear hc hc'
      go_wp2_with fail
      go_region_with (go_at_call 131; refine (eqTurn (F k 0) (F k 1) _).mono ?_; rintro e w1 ⟨rfl, hb1⟩)
      all_goals
        go_wp2_with fail
        go_roundw
        case rel => exact ⟨k + 1, by omega, by go_num, hbel.drew.trans (hb1.mono hbel.drew.size)⟩
        case measure => simp [intOf]; omega
    · go_wp2
      go_ret
      exact ⟨rfl, hbel⟩

set_option maxHeartbeats 1000000 in
theorem eqBoolS (a a' : Option Addr) (n cap cap' : Nat) (D : Nat → Bool) (w : World) (hn : n ≤ 1048576) (hE : VsAt 1 0 w a n (boolF D)) (hE' : VsAt 1 0 w a' n (boolF D)) :
    Calls Tryz.prog 46 #[.slice a n cap, .slice a' n cap'] w fun e w' => e = .returned (.bool true) ∧ Below w.heap.size w w' := by
  go_enter Tryz.func46, Tryz.ntmps46
  go_wp2_with fail
  go_loopw [5] (fun i wr => ∃ (k : Nat), k ≤ n ∧ i = .int .i64 k ∧ Below w.heap.size w wr) (fun i _ => n - (intOf i).toNat)
  case atStart => exact ⟨0, Nat.zero_le _, rfl, Below.refl _ _⟩
  case round =>
    obtain ⟨k, hk, rfl, hbel⟩ := hrel
    by_cases hlt : k < n
    · obtain ⟨b, off, rfl, _, hb, hc⟩ := (hE.mono (Nat.le_refl _) hbel (Nat.le_refl _)) (by omega)
      obtain ⟨b', off', rfl, _, hb', hc'⟩ := (hE'.mono (Nat.le_refl _) hbel (Nat.le_refl _)) (by omega)
      have c0 : wr.cell? ⟨b, off + k, none⟩ = some (.bool (D k)) := by have := hc k hlt 0 (by omega); rwa [Nat.mul_one] at this
      have d0 : wr.cell? ⟨b', off' + k, none⟩ = some (.bool (D k)) := by have := hc' k hlt 0 (by omega); rwa [Nat.mul_one] at this
      have hlt' : (k : Int) < (n : Int) := by omega
      have hk0 : (0 : Int) ≤ (k : Int) := by omega
      clear hc hc'
      go_wp2_with fail
      go_quiet (fail)
      go_wp2_with fail
      go_roundw
      case rel => exact ⟨k + 1, by omega, by go_num, below_drewN hbel _⟩
      case measure => simp [intOf]; omega
    · go_wp2
      go_ret
      exact ⟨rfl, hbel⟩

set_option maxHeartbeats 1000000 in
theorem eqIntS (a a' : Option Addr) (n cap cap' : Nat) (F : Nat → Nat → Int) (w : World) (hn : n ≤ 1048576) (hE : VsAt 1 0 w a n (intF F)) (hE' : VsAt 1 0 w a' n (intF F)) :
    Calls Tryz.prog 43 #[.slice a n cap, .slice a' n cap'] w fun e w' => e = .returned (.bool true) ∧ Below w.heap.size w w' := by
  go_enter Tryz.func43, Tryz.ntmps43
  go_wp2_with fail
  go_loopw [5] (fun i wr => ∃ (k : Nat), k ≤ n ∧ i = .int .i64 k ∧ Below w.heap.size w wr) (fun i _ => n - (intOf i).toNat)
  case atStart => exact ⟨0, Nat.zero_le _, rfl, Below.refl _ _⟩
  case round =>
    obtain ⟨k, hk, rfl, hbel⟩ := hrel
    by_cases hlt : k < n
    · obtain ⟨b, off, rfl, _, hb, hc⟩ := (hE.mono (Nat.le_refl _) hbel (Nat.le_refl _)) (by omega)
      obtain ⟨b', off', rfl, _, hb', hc'⟩ := (hE'.mono (Nat.le_refl _) hbel (Nat.le_refl _)) (by omega)
      have c0 : wr.cell? ⟨b, off + k, none⟩ = some (.int .i64 (F k 0)) := by have := hc k hlt 0 (by omega); rwa [Nat.mul_one] at this
      have d0 : wr.cell? ⟨b', off' + k, none⟩ = some (.int .i64 (F k 0)) := by have := hc' k hlt 0 (by omega); rwa [Nat.mul_one] at this
      have hlt' : (k : Int) < (n : Int) := by omega
      have hk0 : (0 : Int) ≤ (k : Int) := by omega
      clear hc hc'
      go_wp2_with fail
      go_quiet (fail)
      go_wp2_with fail
      go_roundw
      case rel => exact ⟨k + 1, by omega, by go_num, below_drewN hbel _⟩
      case measure => simp [intOf]; omega
    · go_wp2
      go_ret
      exact ⟨rfl, hbel⟩


end Go.Proofs.YtkeilejbelblcaaGreatDoor

namespace Go.Proofs.YtkeilejbelblcaaGreatDoor
open Go.RowKit

set_option maxHeartbeats 400000 in
theorem szIntS (a : Option Addr) (len cap : Nat) (left : Int) (w : World) (hs : len ≤ maxLen) (h0 : 0 ≤ left) (h1 : left ≤ 1048576) :
    Calls Tryz.prog 24 #[.slice a len cap, .int .i64 left] w fun e w' => e = .returned (.int .i64 (szL left len)) ∧ w' = w := by
  unfold maxLen at hs
  by_cases h : left < (len : Int)
  · go_enter Tryz.func24, Tryz.ntmps24
    go_wp2
    go_ret
    exact ⟨by simp [szL]; omega, rfl⟩
  · go_enter Tryz.func24, Tryz.ntmps24
    go_wp2
    go_ret
    exact ⟨by simp [szL]; omega, rfl⟩

set_option maxHeartbeats 400000 in
theorem szTurnS (a : Option Addr) (len cap : Nat) (left : Int) (w : World) (hs : len ≤ maxLen) (h0 : 0 ≤ left) (h1 : left ≤ 1048576) :
    Calls Tryz.prog 100 #[.slice a len cap, .int .i64 left] w fun e w' => e = .returned (.int .i64 (szL left len)) ∧ w' = w := by
  unfold maxLen at hs
  by_cases h : left < (len : Int)
  · go_enter Tryz.func100, Tryz.ntmps100
    go_wp2
    go_ret
    exact ⟨by simp [szL]; omega, rfl⟩
  · go_enter Tryz.func100, Tryz.ntmps100
    go_wp2
    go_ret
    exact ⟨by simp [szL]; omega, rfl⟩

set_option maxHeartbeats 400000 in
theorem szBoolS (a : Option Addr) (len cap : Nat) (left : Int) (w : World) (hs : len ≤ maxLen) (h0 : 0 ≤ left) (h1 : left ≤ 1048576) :
    Calls Tryz.prog 27 #[.slice a len cap, .int .i64 left] w fun e w' => e = .returned (.int .i64 (szL left len)) ∧ w' = w := by
  unfold maxLen at hs
  by_cases h : left < (len : Int)
  · go_enter Tryz.func27, Tryz.ntmps27
    go_wp2
    go_ret
    exact ⟨by simp [szL]; omega, rfl⟩
  · go_enter Tryz.func27, Tryz.ntmps27
    go_wp2
    go_ret
    exact ⟨by simp [szL]; omega, rfl⟩


end Go.Proofs.YtkeilejbelblcaaGreatDoor

namespace Go.Proofs.YtkeilejbelblcaaGreatDoor
open Go.RowKit

/-- no list of the way is longer than a list can be -/
def Wy.fits (y : Wy) : Prop := y.ns ≤ maxLen ∧ y.nl ≤ maxLen ∧ y.nf ≤ maxLen ∧ y.no ≤ maxLen ∧ y.nm ≤ maxLen
set_option maxHeartbeats 1000000 in
theorem szWay (y : Wy) (sa la fa oa ma : Option Addr) (sc lc fc oc mc : Nat) (left : Int) (w : World) (hf : y.fits) (h0 : 0 ≤ left) (h1 : left ≤ 1048576) :
    Calls Tryz.prog 70 #[.agg #[.slice sa y.ns sc, .slice la y.nl lc, .slice fa y.nf fc, .slice oa y.no oc, .slice ma y.nm mc], .int .i64 left] w fun e w' => ∃ r : Int, e = .returned (.int .i64 r) ∧ r ≤ left ∧ (0 ≤ r → y.small left) ∧ Below w.heap.size w w' := by
  obtain ⟨f0, f1, f2, f3, f4⟩ := hf
  go_enter Tryz.func70, Tryz.ntmps70
  go_wp2_with fail
  refine (szIntS sa y.ns sc left _ f0 (by omega) (by omega)).mono ?_
  rintro e w1 ⟨he, hw⟩
  have hw := hw.symm
  subst hw
  obtain ⟨l1, hl1⟩ : ∃ l, l = szL left y.ns := ⟨_, rfl⟩
  rw [← hl1] at he
  subst he
  by_cases hn1 : l1 < 0
  · go_wp2_with fail
    go_ret
    exact ⟨-1, rfl, by omega, fun h => by omega, bel1 _ _⟩
  have q1 := szL_pos (left := left) (n := y.ns) (by rw [← hl1]; exact hn1)
  rw [← hl1] at q1
  have r1 : l1 ≤ left := by omega
  have p1 := q1.1
  clear hl1 q1
  go_wp2_with fail
  refine (szTurnS la y.nl lc l1 _ f1 (by omega) (by omega)).mono ?_
  rintro e w2 ⟨he, hw⟩
  have hw := hw.symm
  subst hw
  obtain ⟨l2, hl2⟩ : ∃ l, l = szL l1 y.nl := ⟨_, rfl⟩
  rw [← hl2] at he
  subst he
  by_cases hn2 : l2 < 0
  · go_wp2_with fail
    go_ret
    exact ⟨-1, rfl, by omega, fun h => by omega, bel1 _ _⟩
  have q2 := szL_pos (left := l1) (n := y.nl) (by rw [← hl2]; exact hn2)
  rw [← hl2] at q2
  have r2 : l2 ≤ l1 := by omega
  have p2 := q2.1
  clear hl2 q2
  go_wp2_with fail
  refine (szTurnS fa y.nf fc l2 _ f2 (by omega) (by omega)).mono ?_
  rintro e w3 ⟨he, hw⟩
  have hw := hw.symm
  subst hw
  obtain ⟨l3, hl3⟩ : ∃ l, l = szL l2 y.nf := ⟨_, rfl⟩
  rw [← hl3] at he
  subst he
  by_cases hn3 : l3 < 0
  · go_wp2_with fail
    go_ret
    exact ⟨-1, rfl, by omega, fun h => by omega, bel1 _ _⟩
  have q3 := szL_pos (left := l2) (n := y.nf) (by rw [← hl3]; exact hn3)
  rw [← hl3] at q3
  have r3 : l3 ≤ l2 := by omega
  have p3 := q3.1
  clear hl3 q3
  go_wp2_with fail
  refine (szIntS oa y.no oc l3 _ f3 (by omega) (by omega)).mono ?_
  rintro e w4 ⟨he, hw⟩
  have hw := hw.symm
  subst hw
  obtain ⟨l4, hl4⟩ : ∃ l, l = szL l3 y.no := ⟨_, rfl⟩
  rw [← hl4] at he
  subst he
  by_cases hn4 : l4 < 0
  · go_wp2_with fail
    go_ret
    exact ⟨-1, rfl, by omega, fun h => by omega, bel1 _ _⟩
  have q4 := szL_pos (left := l3) (n := y.no) (by rw [← hl4]; exact hn4)
  rw [← hl4] at q4
  have r4 : l4 ≤ l3 := by omega
  have p4 := q4.1
  clear hl4 q4
  go_wp2_with fail
  refine (szIntS ma y.nm mc l4 _ f4 (by omega) (by omega)).mono ?_
  rintro e w5 ⟨he, hw⟩
  have hw := hw.symm
  subst hw
  obtain ⟨l5, hl5⟩ : ∃ l, l = szL l4 y.nm := ⟨_, rfl⟩
  rw [← hl5] at he
  subst he
  by_cases hn5 : l5 < 0
  · go_wp2_with fail
    go_ret
    exact ⟨-1, rfl, by omega, fun h => by omega, bel1 _ _⟩
  have q5 := szL_pos (left := l4) (n := y.nm) (by rw [← hl5]; exact hn5)
  rw [← hl5] at q5
  have r5 : l5 ≤ l4 := by omega
  have p5 := q5.1
  clear hl5 q5
  go_wp2_with fail
  go_ret
  exact ⟨l5, rfl, by omega, fun _ => ⟨by omega, by omega, by omega, by omega, by omega⟩, bel1 _ _⟩

set_option maxHeartbeats 1000000 in
theorem szWayS (a : Option Addr) (n cap : Nat) (Y : Nat → Wy) (left : Int) (w : World) (hn : n ≤ maxLen) (h0 : 0 ≤ left) (h1 : left ≤ 1048576)
    (hJ : WsAt 0 w a n Y) (hs : ∀ i, i < n → (Y i).fits) :
    Calls Tryz.prog 25 #[.slice a n cap, .int .i64 left] w fun e w' =>
      ∃ r : Int, e = .returned (.int .i64 r) ∧ r ≤ left ∧ (0 ≤ r → (n : Int) ≤ left ∧ ∀ i, i < n → (Y i).small left) ∧ Below w.heap.size w w' := by
  unfold maxLen at hn
  by_cases h : left < (n : Int)
  · go_enter Tryz.func25, Tryz.ntmps25
    go_wp2
    go_ret
    exact ⟨-1, rfl, by omega, by omega, Below.refl _ _⟩
  · go_enter Tryz.func25, Tryz.ntmps25
    go_wp2_with fail
    go_loopw [1, 5] (fun l i wr => ∃ (k : Nat) (lv : Int), k ≤ n ∧ i = .int .i64 k ∧ l = .int .i64 lv ∧ 0 ≤ lv ∧ lv ≤ left ∧ Hid (∀ i, i < k → (Y i).small left) ∧ Below w.heap.size w wr)
      (fun _ i _ => n - (intOf i).toNat)
    case atStart => exact ⟨0, left - n, Nat.zero_le _, rfl, rfl, by omega, by omega, fun i hi => absurd hi (Nat.not_lt_zero _), Below.refl _ _⟩
    case round =>
      obtain ⟨k, lv, hk, rfl, rfl, hl0, hl1, Hall, hbel⟩ := hrel
      by_cases hlt : k < n
      · obtain ⟨b, off, rfl, _, hb, hc⟩ := (hJ.mono (Nat.le_refl _) hbel (Nat.le_refl _)) (by omega)
        obtain ⟨sa, sc, la, lc, fa, fc, oa, oc, ma, mc, c0, c1, c2, c3, c4, _⟩ := hc k hlt
        have hsz := hs k hlt
        clear hc
        go_wp2_with fail
        refine (szWay (Y k) sa la fa oa ma sc lc fc oc mc lv _ hsz hl0 (by omega)).mono ?_
        rintro e w1 ⟨r, rfl, hr1, hr2, hb1⟩
        have hb2 : Below w.heap.size w w1 := hbel.trans (hb1.mono hbel.size)
        by_cases hneg : r < 0
        · go_wp2
          go_ret
          exact ⟨-1, rfl, by omega, by omega, hb2⟩
        · obtain ⟨s1, s2, s3, s4, s5⟩ := hr2 (by omega)
          have Hr : Hid (∀ i, i < k + 1 → (Y i).small left) := by
            intro i hi
            by_cases e : i = k
            · subst e
              exact ⟨by omega, by omega, by omega, by omega, by omega⟩
            · exact Hall.out i (by omega)
          clear hr2 Hall
          go_wp2
          go_roundw
          case rel => exact ⟨k + 1, r, by omega, by go_num, rfl, by omega, by omega, Hr, hb2⟩
          case measure => simp [intOf]; omega
      · obtain rfl : k = n := by omega
        go_wp2
        go_ret
        exact ⟨lv, rfl, by omega, fun _ => ⟨by omega, Hall.out⟩, hbel⟩

set_option maxHeartbeats 1000000 in
theorem szBoolSS (a : Option Addr) (n cap : Nat) (K : Nat → Nat) (T : Nat → Nat → Bool) (left : Int) (w : World) (hn : n ≤ maxLen) (h0 : 0 ≤ left) (h1 : left ≤ 1048576)
    (hJ : BsAt 0 w a n K T) (hs : ∀ i, i < n → K i ≤ maxLen) :
    Calls Tryz.prog 26 #[.slice a n cap, .int .i64 left] w fun e w' =>
      ∃ r : Int, e = .returned (.int .i64 r) ∧ r ≤ left ∧ (0 ≤ r → (n : Int) ≤ left ∧ ∀ i, i < n → (K i : Int) ≤ left) ∧ Below w.heap.size w w' := by
  unfold maxLen at hn
  by_cases h : left < (n : Int)
  · go_enter Tryz.func26, Tryz.ntmps26
    go_wp2
    go_ret
    exact ⟨-1, rfl, by omega, by omega, Below.refl _ _⟩
  · go_enter Tryz.func26, Tryz.ntmps26
    go_wp2_with fail
    go_loopw [1, 5] (fun l i wr => ∃ (k : Nat) (lv : Int), k ≤ n ∧ i = .int .i64 k ∧ l = .int .i64 lv ∧ 0 ≤ lv ∧ lv ≤ left ∧ Hid (∀ i, i < k → (K i : Int) ≤ left) ∧ Below w.heap.size w wr)
      (fun _ i _ => n - (intOf i).toNat)
    case atStart => exact ⟨0, left - n, Nat.zero_le _, rfl, rfl, by omega, by omega, fun i hi => absurd hi (Nat.not_lt_zero _), Below.refl _ _⟩
    case round =>
      obtain ⟨k, lv, hk, rfl, rfl, hl0, hl1, Hall, hbel⟩ := hrel
      by_cases hlt : k < n
      · obtain ⟨b, off, rfl, _, hb, hc⟩ := (hJ.mono (Nat.le_refl _) hbel (Nat.le_refl _)) (by omega)
        obtain ⟨ra, rc, c0, _⟩ := hc k hlt
        have hsz := hs k hlt
        clear hc
        go_wp2_with fail
        refine (szBoolS ra (K k) rc lv _ hsz hl0 (by omega)).mono ?_
        rintro e w1 ⟨he, hw⟩
        have hw := hw.symm
        subst hw
        obtain ⟨r, hr⟩ : ∃ l, l = szL lv (K k) := ⟨_, rfl⟩
        rw [← hr] at he
        subst he
        by_cases hneg : r < 0
        · go_wp2
          go_ret
          exact ⟨-1, rfl, by omega, by omega, hbel⟩
        · have q1 := szL_pos (left := lv) (n := K k) (by rw [← hr]; exact hneg)
          rw [← hr] at q1
          have Hr : Hid (∀ i, i < k + 1 → (K i : Int) ≤ left) := by
            intro i hi
            by_cases e : i = k
            · subst e
              omega
            · exact Hall.out i (by omega)
          have r1 : r ≤ lv := by omega
          clear Hall hr q1
          go_wp2
          go_roundw
          case rel => exact ⟨k + 1, r, by omega, by go_num, rfl, by omega, by omega, Hr, hbel⟩
          case measure => simp [intOf]; omega
      · obtain rfl : k = n := by omega
        go_wp2
        go_ret
        exact ⟨lv, rfl, by omega, fun _ => ⟨by omega, Hall.out⟩, hbel⟩

/-- a plan, by its numbers -/
structure Pl where
  sec : Int
  nw : Nat
  W : Nat → Int
  ny : Nat
  Y : Nat → Wy
  nb : Nat
  K : Nat → Nat
  T : Nat → Nat → Bool
  hold : Int
def Pl.fits (p : Pl) : Prop := p.nw ≤ maxLen ∧ p.ny ≤ maxLen ∧ (∀ i, i < p.ny → (p.Y i).fits) ∧ p.nb ≤ maxLen ∧ ∀ i, i < p.nb → p.K i ≤ maxLen
/-- nothing in the plan is longer than a million -/
def Pl.small (p : Pl) : Prop := p.nw ≤ 1048576 ∧ p.ny ≤ 1048576 ∧ (∀ i, i < p.ny → (p.Y i).small 1048576) ∧ p.nb ≤ 1048576 ∧ ∀ i, i < p.nb → p.K i ≤ 1048576
/-- a plan's lists, by their slices -/
structure PlIn (C : Nat) (w : World) (p : Pl) (wa ya ba : Option Addr) : Prop where
  sw : VsAt 1 C w wa p.nw (oneF p.W)
  wy : WsAt C w ya p.ny p.Y
  br : BsAt C w ba p.nb p.K p.T
theorem PlIn.mono {C C' : Nat} {w w' : World} {p : Pl} {wa ya ba : Option Addr} {B : Nat} (h : PlIn C w p wa ya ba) (hC : C' ≤ C) (hb : Below B w w') (hB : w.heap.size ≤ B) : PlIn C' w' p wa ya ba := ⟨h.sw.mono hC hb hB, h.wy.mono hC hb hB, h.br.mono hC hb hB⟩
theorem PlIn.keep {C C' : Nat} {w w' : World} {p : Pl} {wa ya ba : Option Addr} (h : PlIn C w p wa ya ba) (hC : C' ≤ C) (hs : w.heap.size ≤ w'.heap.size) (hk : ∀ b, C ≤ b → b < w.heap.size → w'.heap[b]? = w.heap[b]?) : PlIn C' w' p wa ya ba := ⟨h.sw.keep hC hs hk, h.wy.keep hC hs hk, h.br.keep hC hs hk⟩
theorem PlIn.le {C C' : Nat} {w : World} {p : Pl} {wa ya ba : Option Addr} (h : PlIn C w p wa ya ba) (hC : C' ≤ C) : PlIn C' w p wa ya ba := h.keep hC (Nat.le_refl _) fun _ _ _ => rfl

set_option maxHeartbeats 1000000 in
theorem szPlan (p : Pl) (wa ya ba : Option Addr) (wc yc bc : Nat) (left : Int) (w : World) (hf : p.fits) (h0 : 0 ≤ left) (h1 : left ≤ 1048576) (hP : PlIn 0 w p wa ya ba) :
    Calls Tryz.prog 6 #[.agg #[.int .i64 p.sec, .slice wa p.nw wc, .slice ya p.ny yc, .slice ba p.nb bc, .int .i64 p.hold], .int .i64 left] w fun e w' =>
      ∃ r : Int, e = .returned (.int .i64 r) ∧ r ≤ left ∧ (0 ≤ r → p.small) ∧ Below w.heap.size w w' := by
  obtain ⟨f1, f2, f3, f4, f5⟩ := hf
  have F3 : Hid (∀ i, i < p.ny → (p.Y i).fits) := f3
  have F5 : Hid (∀ i, i < p.nb → p.K i ≤ maxLen) := f5
  clear f3 f5
  go_enter Tryz.func6, Tryz.ntmps6
  go_wp2_with fail
  have B0 := bel1 w (.cells #[.int .i64 p.sec, .slice wa p.nw wc, .slice ya p.ny yc, .slice ba p.nb bc, .int .i64 p.hold] 26)
  refine (szIntS wa p.nw wc left _ f1 h0 h1).mono ?_
  rintro e w1 ⟨he, hw⟩
  have hw := hw.symm
  subst hw
  obtain ⟨l1, hl1⟩ : ∃ l, l = szL left p.nw := ⟨_, rfl⟩
  rw [← hl1] at he
  subst he
  by_cases hn1 : l1 < 0
  · go_wp2_with fail
    go_ret
    exact ⟨-1, rfl, by omega, fun h => by omega, bel1 _ _⟩
  have q1 := szL_pos (left := left) (n := p.nw) (by rw [← hl1]; exact hn1)
  rw [← hl1] at q1
  have r1 : l1 ≤ left := by omega
  have p1 := q1.1
  clear hl1 q1
  go_wp2_with fail
  refine (szWayS ya p.ny yc p.Y l1 _ f2 (by omega) (by omega) (hP.wy.mono (Nat.le_refl _) B0 (Nat.le_refl _)) F3.out).mono ?_
  rintro e w2 ⟨l2, rfl, g1, g2, hb2⟩
  have G2 : Hid (0 ≤ l2 → (p.ny : Int) ≤ l1 ∧ ∀ i, i < p.ny → (p.Y i).small l1) := g2
  have B2 := B0.trans (hb2.mono B0.size)
  have a3 : w2.cell? ⟨w.heap.size, 3, none⟩ = some (.slice ba p.nb bc) := cell_keep hb2 (by simp) (by simp)
  clear g2 hb2 B0
  by_cases hn2 : l2 < 0
  · go_wp2_with fail
    go_ret
    exact ⟨-1, rfl, by omega, fun h => by omega, B2⟩
  go_wp2_with fail
  refine (szBoolSS ba p.nb bc p.K p.T l2 _ f4 (by omega) (by omega) (hP.br.mono (Nat.le_refl _) B2 (Nat.le_refl _)) F5.out).mono ?_
  rintro e w3 ⟨l3, rfl, g3, g4, hb3⟩
  have G4 : Hid (0 ≤ l3 → (p.nb : Int) ≤ l2 ∧ ∀ i, i < p.nb → (p.K i : Int) ≤ l2) := g4
  have B3 := B2.trans (hb3.mono B2.size)
  clear g4 hb3 B2 a3
  by_cases hn3 : l3 < 0
  · go_wp2_with fail
    go_ret
    exact ⟨-1, rfl, by omega, fun h => by omega, B3⟩
  go_wp2_with fail
  go_ret
  refine ⟨l3, rfl, by omega, fun h => ?_, B3⟩
  obtain ⟨u1, u2⟩ := G2.out (by omega)
  obtain ⟨u3, u4⟩ := G4.out h
  refine ⟨by omega, by omega, fun i hi => ?_, by omega, fun i hi => by have := u4 i hi; omega⟩
  obtain ⟨s1, s2, s3, s4, s5⟩ := u2 i hi
  exact ⟨by omega, by omega, by omega, by omega, by omega⟩

end Go.Proofs.YtkeilejbelblcaaGreatDoor
