import Derived.Test.YtkeilejbelblcaaGreatDoorK17
import Derived.Test.YtkeilejbelblcaaGreatDoorGMdSz
import Derived.Test.YtkeilejbelblcaaGreatDoorFq
namespace Go.Proofs.YtkeilejbelblcaaGreatDoor
open Go.RowKit Go.Lib

set_option maxRecDepth 100000 in
set_option maxHeartbeats 4000000 in
theorem frameI11 (p : Pl) (f : Fm) (wb yb bb : Nat) (lo rr : Nat → Nat) (ob pb hb : Nat) (r : Nat → Nat) (et : TypeId) (ev : Value) (w : World) (hs : p.small) (hfs : f.small) (hP : PlOwn 0 w p wb yb bb lo rr) (hF : FmOwn 0 w f (.slice (some ⟨ob, 0, none⟩) f.no f.no) (.slice (some ⟨pb, 0, none⟩) f.np f.np) (.slice (some ⟨hb, 0, none⟩) f.nh f.nh) r) (he : w.cell? ⟨0, 0, none⟩ = some (.iface et ev)) (h0 : 0 < w.heap.size) :
    Calls Tryz.prog 11 #[.agg #[.int .i64 p.sec, .slice (some ⟨wb, 0, none⟩) p.nw p.nw, .slice (some ⟨yb, 0, none⟩) p.ny p.ny, .slice (some ⟨bb, 0, none⟩) p.nb p.nb, .int .i64 p.hold], .agg #[.bool f.ok, .slice (some ⟨ob, 0, none⟩) f.no f.no, .slice (some ⟨pb, 0, none⟩) f.np f.np, .slice (some ⟨hb, 0, none⟩) f.nh f.nh]] w fun e w' => e = .returned (.bool (frameB p f)) ∧ Below w.heap.size w w' := by
  have H : Hid (PlOwn 0 w p wb yb bb lo rr ∧ FmOwn 0 w f (.slice (some ⟨ob, 0, none⟩) f.no f.no) (.slice (some ⟨pb, 0, none⟩) f.np f.np) (.slice (some ⟨hb, 0, none⟩) f.nh f.nh) r ∧ w.cell? ⟨0, 0, none⟩ = some (.iface et ev) ∧ 0 < w.heap.size) := ⟨hP, hF, he, h0⟩
  have S0 : Hid (Below w.heap.size w ((w.alloc (.cells #[.int .i64 p.sec, .slice (some ⟨wb, 0, none⟩) p.nw p.nw, .slice (some ⟨yb, 0, none⟩) p.ny p.ny, .slice (some ⟨bb, 0, none⟩) p.nb p.nb, .int .i64 p.hold] 37)).alloc (.cells #[.bool f.ok, .slice (some ⟨ob, 0, none⟩) f.no f.no, .slice (some ⟨pb, 0, none⟩) f.np f.np, .slice (some ⟨hb, 0, none⟩) f.nh f.nh] 42))) := bel2 _ _ _
  clear hP hF he h0
  go_enter Tryz.func11, Tryz.ntmps11
  go_wp2_with fail
  generalize ((w.alloc (.cells #[.int .i64 p.sec, .slice (some ⟨wb, 0, none⟩) p.nw p.nw, .slice (some ⟨yb, 0, none⟩) p.ny p.ny, .slice (some ⟨bb, 0, none⟩) p.nb p.nb, .int .i64 p.hold] 37)).alloc (.cells #[.bool f.ok, .slice (some ⟨ob, 0, none⟩) f.no f.no, .slice (some ⟨pb, 0, none⟩) f.np f.np, .slice (some ⟨hb, 0, none⟩) f.nh f.nh] 42)) = W at S0 ⊢
  refine (desk42 p f wb yb bb lo rr ob pb hb r et ev W hs hfs (H.out.1.mono (Nat.le_refl _) S0.out (Nat.le_refl _)) (H.out.2.1.mono (Nat.le_refl _) S0.out (Nat.le_refl _)) (cell_keep S0.out H.out.2.2.2 H.out.2.2.1) (Nat.lt_of_lt_of_le H.out.2.2.2 S0.out.size)).mono ?_
  rintro e w1 ⟨hb1, hc⟩
  have HB : Hid (Below w.heap.size w w1) := S0.out.trans (hb1.mono S0.out.size)
  clear hb1
  rcases hc with ⟨hf, rfl⟩ | ⟨hf, ia, ic, v, rfl, _⟩
  · have HX : Hid (frameB p f = false) := hf
    clear hf
    go_wp2_with fail
    go_ret
    exact ⟨by rw [HX.out]; rfl, HB.out.alloc HB.out.size _⟩
  · have HX : Hid (frameB p f = true) := hf
    clear hf
    go_wp2_with fail
    go_ret
    exact ⟨by rw [HX.out]; rfl, HB.out.alloc HB.out.size _⟩

end Go.Proofs.YtkeilejbelblcaaGreatDoor

namespace Go.Proofs.YtkeilejbelblcaaGreatDoor
open Go.RowKit

def Fm.fits (f : Fm) : Prop := f.no ≤ maxLen ∧ f.np ≤ maxLen ∧ f.nh ≤ maxLen ∧ ∀ i, i < f.nh → (f.Y i).nb ≤ maxLen
set_option maxHeartbeats 400000 in
theorem szPointS (a : Option Addr) (len cap : Nat) (left : Int) (w : World) (hs : len ≤ maxLen) (h0 : 0 ≤ left) (h1 : left ≤ 1048576) :
    Calls Tryz.prog 28 #[.slice a len cap, .int .i64 left] w fun e w' => e = .returned (.int .i64 (szL left len)) ∧ w' = w := by
  unfold maxLen at hs
  by_cases h : left < (len : Int)
  · go_enter Tryz.func28, Tryz.ntmps28
    go_wp2
    go_ret
    exact ⟨by simp [szL]; omega, rfl⟩
  · go_enter Tryz.func28, Tryz.ntmps28
    go_wp2
    go_ret
    exact ⟨by simp [szL]; omega, rfl⟩
set_option maxHeartbeats 1000000 in
theorem szHeld (h : Hl) (ra : Option Addr) (rc : Nat) (left : Int) (w : World) (hs : h.nb ≤ maxLen) (h0 : 0 ≤ left) (h1 : left ≤ 1048576) :
    Calls Tryz.prog 71 #[.agg #[.int .i64 h.st, .int .i64 h.gone, .slice ra h.nb rc, .bool h.shown, .int .i64 h.timer], .int .i64 left] w fun e w' => ∃ r : Int, e = .returned (.int .i64 r) ∧ r ≤ left ∧ (0 ≤ r → (h.nb : Int) ≤ left) ∧ Below w.heap.size w w' := by
  have B0 : Hid (Below w.heap.size w (w.alloc (.cells #[.int .i64 h.st, .int .i64 h.gone, .slice ra h.nb rc, .bool h.shown, .int .i64 h.timer] 122))) := bel1 _ _
  go_enter Tryz.func71, Tryz.ntmps71
  go_wp2_with fail
  refine (szBoolS ra h.nb rc left _ hs h0 h1).mono ?_
  rintro e w1 ⟨he, hw⟩
  have hw := hw.symm
  subst hw
  obtain ⟨l1, hl1⟩ : ∃ l, l = szL left h.nb := ⟨_, rfl⟩
  rw [← hl1] at he
  subst he
  by_cases hn1 : l1 < 0
  · go_wp2_with fail
    go_ret
    exact ⟨-1, rfl, by omega, fun h => by omega, B0.out⟩
  have q1 := szL_pos (left := left) (n := h.nb) (by rw [← hl1]; exact hn1)
  rw [← hl1] at q1
  have r1 : l1 ≤ left := by omega
  have p1 : (h.nb : Int) ≤ left := by omega
  clear hl1 q1
  go_wp2_with fail
  go_ret
  exact ⟨l1, rfl, r1, fun _ => p1, B0.out⟩
set_option maxHeartbeats 1000000 in
theorem szHeldS (a : Option Addr) (n cap : Nat) (Y : Nat → Hl) (left : Int) (w : World) (hn : n ≤ maxLen) (h0 : 0 ≤ left) (h1 : left ≤ 1048576)
    (hJ : HsAt 0 w a n Y) (hs : ∀ i, i < n → (Y i).nb ≤ maxLen) :
    Calls Tryz.prog 29 #[.slice a n cap, .int .i64 left] w fun e w' =>
      ∃ r : Int, e = .returned (.int .i64 r) ∧ r ≤ left ∧ (0 ≤ r → (n : Int) ≤ left ∧ ∀ i, i < n → ((Y i).nb : Int) ≤ left) ∧ Below w.heap.size w w' := by
  unfold maxLen at hn
  by_cases h : left < (n : Int)
  · go_enter Tryz.func29, Tryz.ntmps29
    go_wp2
    go_ret
    exact ⟨-1, rfl, by omega, by omega, Below.refl _ _⟩
  · go_enter Tryz.func29, Tryz.ntmps29
    go_wp2_with fail
    go_loopw [1, 5] (fun l i wr => ∃ (k : Nat) (lv : Int), k ≤ n ∧ i = .int .i64 k ∧ l = .int .i64 lv ∧ 0 ≤ lv ∧ lv ≤ left ∧ Hid (∀ i, i < k → ((Y i).nb : Int) ≤ left) ∧ Below w.heap.size w wr)
      (fun _ i _ => n - (intOf i).toNat)
    case atStart => exact ⟨0, left - n, Nat.zero_le _, rfl, rfl, by omega, by omega, fun i hi => absurd hi (Nat.not_lt_zero _), Below.refl _ _⟩
    case round =>
      obtain ⟨k, lv, hk, rfl, rfl, hl0, hl1, Hall, hbel⟩ := hrel
      by_cases hlt : k < n
      · obtain ⟨b, off, rfl, _, hb, hc⟩ := (hJ.mono (Nat.le_refl _) hbel (Nat.le_refl _)) (by omega)
        obtain ⟨ra, rc, c0, c1, c2, c3, c4, _⟩ := hc k hlt
        have hsz := hs k hlt
        clear hc
        go_wp2_with fail
        refine (szHeld (Y k) ra rc lv _ hsz hl0 (by omega)).mono ?_
        rintro e w1 ⟨r, rfl, hr1, hr2, hb1⟩
        have hb2 : Below w.heap.size w w1 := hbel.trans (hb1.mono hbel.size)
        by_cases hneg : r < 0
        · go_wp2
          go_ret
          exact ⟨-1, rfl, by omega, by omega, hb2⟩
        · have s1 := hr2 (by omega)
          have Hr : Hid (∀ i, i < k + 1 → ((Y i).nb : Int) ≤ left) := by
            intro i hi
            by_cases e : i = k
            · subst e
              omega
            · exact Hall.out i (by omega)
          clear hr2 Hall s1
          go_wp2
          go_roundw
          case rel => exact ⟨k + 1, r, by omega, by go_num, rfl, by omega, by omega, Hr, hb2⟩
          case measure => simp [intOf]; omega
      · obtain rfl : k = n := by omega
        go_wp2
        go_ret
        exact ⟨lv, rfl, by omega, fun _ => ⟨by omega, Hall.out⟩, hbel⟩
set_option maxHeartbeats 2000000 in
theorem szFrame (f : Fm) (oa pa ha : Option Addr) (oc pc hc : Nat) (left : Int) (w : World) (hf : f.fits) (h0 : 0 ≤ left) (h1 : left ≤ 1048576) (hF : FmIn 0 w f oa pa ha) :
    Calls Tryz.prog 7 #[.agg #[.bool f.ok, .slice oa f.no oc, .slice pa f.np pc, .slice ha f.nh hc], .int .i64 left] w fun e w' =>
      ∃ r : Int, e = .returned (.int .i64 r) ∧ r ≤ left ∧ (0 ≤ r → f.small) ∧ Below w.heap.size w w' := by
  obtain ⟨f1, f2, f3, f4⟩ := hf
  have F4 : Hid (∀ i, i < f.nh → (f.Y i).nb ≤ maxLen) := f4
  clear f4
  go_enter Tryz.func7, Tryz.ntmps7
  go_wp2_with fail
  have B0 := bel1 w (.cells #[.bool f.ok, .slice oa f.no oc, .slice pa f.np pc, .slice ha f.nh hc] 31)
  refine (szBoolS oa f.no oc left _ f1 h0 h1).mono ?_
  rintro e w1 ⟨he, hw⟩
  have hw := hw.symm
  subst hw
  obtain ⟨l1, hl1⟩ : ∃ l, l = szL left f.no := ⟨_, rfl⟩
  rw [← hl1] at he
  subst he
  by_cases hn1 : l1 < 0
  · go_wp2_with fail
    go_ret
    exact ⟨-1, rfl, by omega, fun h => by omega, bel1 _ _⟩
  have q1 := szL_pos (left := left) (n := f.no) (by rw [← hl1]; exact hn1)
  rw [← hl1] at q1
  have r1 : l1 ≤ left := by omega
  have p1 := q1.1
  clear hl1 q1
  go_wp2_with fail
  refine (szPointS pa f.np pc l1 _ f2 (by omega) (by omega)).mono ?_
  rintro e w1 ⟨he, hw⟩
  have hw := hw.symm
  subst hw
  obtain ⟨l2, hl2⟩ : ∃ l, l = szL l1 f.np := ⟨_, rfl⟩
  rw [← hl2] at he
  subst he
  by_cases hn2 : l2 < 0
  · go_wp2_with fail
    go_ret
    exact ⟨-1, rfl, by omega, fun h => by omega, bel1 _ _⟩
  have q2 := szL_pos (left := l1) (n := f.np) (by rw [← hl2]; exact hn2)
  rw [← hl2] at q2
  have r2 : l2 ≤ left := by omega
  have p2 := q2.1
  clear hl2 q2
  go_wp2_with fail
  refine (szHeldS ha f.nh hc f.Y l2 _ f3 (by omega) (by omega) (hF.h.mono (Nat.le_refl _) B0 (Nat.le_refl _)) F4.out).mono ?_
  rintro e w3 ⟨l3, rfl, g3, g4, hb3⟩
  have G4 : Hid (0 ≤ l3 → (f.nh : Int) ≤ l2 ∧ ∀ i, i < f.nh → ((f.Y i).nb : Int) ≤ l2) := g4
  have B3 := B0.trans (hb3.mono B0.size)
  clear g4 hb3 B0
  by_cases hn3 : l3 < 0
  · go_wp2_with fail
    go_ret
    exact ⟨-1, rfl, by omega, fun h => by omega, B3⟩
  go_wp2_with fail
  go_ret
  refine ⟨l3, rfl, by omega, fun h => ?_, B3⟩
  obtain ⟨u3, u4⟩ := G4.out h
  exact ⟨by omega, by omega, by omega, fun i hi => by have := u4 i hi; omega⟩

end Go.Proofs.YtkeilejbelblcaaGreatDoor
