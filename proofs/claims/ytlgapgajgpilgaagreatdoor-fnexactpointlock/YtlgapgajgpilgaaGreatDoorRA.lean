import Derived.Test.YtlgapgajgpilgaaGreatDoorGMoSm
import Derived.Test.YtlgapgajgpilgaaGreatDoorGSaH5
import Derived.Test.YtlgapgajgpilgaaGreatDoorQA
import Derived.Test.YtlgapgajgpilgaaGreatDoorK7
import Derived.Test.YtlgapgajgpilgaaGreatDoorGK3K4
import Derived.Test.YtlgapgajgpilgaaGreatDoorGH14H1
import Derived.Test.YtlgapgajgpilgaaGreatDoorK2
import Derived.Test.YtlgapgajgpilgaaGreatDoorK17
import Derived.Test.YtlgapgajgpilgaaGreatDoorH15
namespace Go.Proofs.YtlgapgajgpilgaaGreatDoor
open Go.RowKit

set_option maxHeartbeats 400000 in
theorem is88 (a b : Int) (pq : Nat) (x : Int) (w : World) (hlt : pq < w.heap.size) (hx : w.cell? ⟨pq, 0, none⟩ = some (.int .i64 x)) :
    Calls Tryz.prog 88 #[.agg #[.int .i64 a, .int .i64 b], .pointer (some ⟨pq, 0, none⟩)] w fun e w' => e = .returned (.bool (decide (a = x))) ∧ Below w.heap.size w w' := by
  go_enter Tryz.func88, Tryz.ntmps88
  go_wp2_with fail
  go_ret
  exact ⟨by simp; rfl, bel1 _ _⟩
def IxR (w : World) (L : Nat → Nat → Int) (n : Nat) (x : Int) (e : Ending) (w' : World) : Prop :=
  ∃ r : Int, e = .returned (.int .i64 r) ∧ decide (0 ≤ r) = anyB (fun j => decide (L j 0 = x)) n ∧ Below w.heap.size w w'
set_option maxRecDepth 100000 in
set_option maxHeartbeats 4000000 in
theorem index113 (a : Option Addr) (n c : Nat) (L : Nat → Nat → Int) (pq : Nat) (x : Int) (w : World) (hn : n ≤ 1048576) (h : VsAt 2 0 w a n (intF L)) (hlt : pq < w.heap.size) (hx : w.cell? ⟨pq, 0, none⟩ = some (.int .i64 x)) :
    Calls Tryz.prog 114 #[.slice a n c, .func (.func 88) #[] #[.pointer (some ⟨pq, 0, none⟩)]] w fun e w' => IxR w L n x e w' := by
  have H : Hid (VsAt 2 0 w a n (intF L) ∧ pq < w.heap.size ∧ w.cell? ⟨pq, 0, none⟩ = some (.int .i64 x)) := ⟨h, hlt, hx⟩
  clear h hlt hx
  go_enter Tryz.func114, Tryz.ntmps114
  go_wp2_with fail
  go_loopw [8] (fun i wr => ∃ k : Nat, k ≤ n ∧ i = .int .i64 k ∧ Hid (∀ j, j < k → decide (L j 0 = x) = false) ∧ Hid (Below w.heap.size w wr)) (fun i _ => n - (intOf i).toNat)
  case atStart => exact ⟨0, Nat.zero_le _, rfl, fun i hi => absurd hi (Nat.not_lt_zero _), Below.refl _ _⟩
  case round =>
    obtain ⟨k, hk, rfl, HK, HB⟩ := hrel
    by_cases hlt : k < n
    · obtain ⟨b, off, rfl, _, hb, hc⟩ := H.out.1.mono (Nat.le_refl _) HB.out (Nat.le_refl _) (by omega)
      have c0 : wr.cell? ⟨b, off + k * 2, none⟩ = some (.int .i64 (L k 0)) := hc k hlt 0 (by omega)
      have c1 : wr.cell? ⟨b, off + k * 2 + 1, none⟩ = some (.int .i64 (L k 1)) := hc k hlt 1 (by omega)
      have hk0 : (0 : Int) ≤ (k : Int) := by omega
      have hkn : (k : Int) < (n : Int) := by omega
      clear hc
      go_wp2_with fail
      refine (is88 (L k 0) (L k 1) pq x wr (Nat.lt_of_lt_of_le H.out.2.1 HB.out.size) (cell_keep HB.out H.out.2.1 H.out.2.2)).mono ?_
      rintro e w2 ⟨he, hb2⟩
      have HB2 : Hid (Below w.heap.size w w2) := HB.out.trans (hb2.mono HB.out.size)
      clear hb2 c0 c1
      obtain ⟨u, HU⟩ : ∃ u, Hid (decide (L k 0 = x) = u) := ⟨_, rfl⟩
      rw [HU.out] at he
      subst he
      cases u with
      | true =>
        have HF : Hid (anyB (fun j => decide (L j 0 = x)) n = true) := anyB_yes hlt HU.out
        go_wp2_with fail
        go_ret
        exact ⟨_, rfl, by rw [HF.out]; simp, HB2.out⟩
      | false =>
        have HK2 : Hid (∀ j, j < k + 1 → decide (L j 0 = x) = false) := fun j hj => by
          by_cases c : j = k
          · subst c
            exact HU.out
          · exact HK.out j (by omega)
        go_wp2_with fail
        go_roundw
        case rel => exact ⟨k + 1, by omega, by go_num, HK2, HB2⟩
        case measure => simp [intOf]; omega
    · have HF : Hid (anyB (fun j => decide (L j 0 = x)) n = false) := anyB_no fun j hj => HK.out j (by omega)
      have hge : ¬ ((k : Int) < (n : Int)) := by omega
      go_wp2_with fail
      go_ret
      exact ⟨_, rfl, by rw [HF.out]; rfl, HB.out⟩
set_option maxHeartbeats 400000 in
theorem contains90 (a : Option Addr) (n c : Nat) (L : Nat → Nat → Int) (pq : Nat) (x : Int) (w : World) (hn : n ≤ 1048576) (h : VsAt 2 0 w a n (intF L)) (hlt : pq < w.heap.size) (hx : w.cell? ⟨pq, 0, none⟩ = some (.int .i64 x)) :
    Calls Tryz.prog 90 #[.slice a n c, .func (.func 88) #[] #[.pointer (some ⟨pq, 0, none⟩)]] w fun e w' => e = .returned (.bool (anyB (fun j => decide (L j 0 = x)) n)) ∧ Below w.heap.size w w' := by
  go_enter Tryz.func90, Tryz.ntmps90
  go_wp2_with fail
  refine (index113 a n c L pq x w hn h hlt hx).mono ?_
  rintro e w1 ⟨r, rfl, hr, hb⟩
  have HR : Hid (decide (0 ≤ r) = anyB (fun j => decide (L j 0 = x)) n ∧ Below w.heap.size w w1) := ⟨hr, hb⟩
  clear hr hb
  go_wp2_with fail
  go_ret
  exact ⟨by rw [← HR.out.1]; rfl, HR.out.2⟩

end Go.Proofs.YtlgapgajgpilgaaGreatDoor

namespace Go.Proofs.YtlgapgajgpilgaaGreatDoor
open Go.RowKit Go.Lib

/-- a way wants a switch yet -/
def wantsB (p : Pl) (f : Fm) (i x : Nat) : Bool := decide ((f.Y i).st ≠ 0) && (anyB (fun j => decide ((p.Y i).F j 0 = (x : Int))) (p.Y i).nf || (anyB (fun j => decide ((p.Y i).L j 0 = (x : Int))) (p.Y i).nl && holdsB p f i (p.W x)))
def WtR (w : World) (p : Pl) (f : Fm) (i x : Nat) (e : Ending) (w' : World) : Prop :=
  ∃ r : Int, e = .returned (.int .i64 r) ∧ decide (0 < r) = wantsB p f i x ∧ Below w.heap.size w w'
theorem any_and (q : Nat → Bool) (c : Bool) {n : Nat} (h : ∀ j, j < n → (q j && c) = false) : (anyB q n && c) = false := by
  cases c with
  | false => simp
  | true => rw [anyB_no fun j hj => by simpa using h j hj]; rfl
set_option maxRecDepth 100000 in
set_option maxHeartbeats 16000000 in
theorem wants87 (p : Pl) (f : Fm) (wa ya ba oa pa ha : Option Addr) (wc yc bc oc pc hc : Nat) (i x : Nat) (w : World) (hs : p.small) (hnh : f.nh ≤ 1048576) (hi : i < p.ny) (hif : i < f.nh) (hx : x < p.nw) (hL : ∀ j, j < (p.Y i).nl → 0 < (p.Y i).L j 1) (hF : ∀ j, j < (p.Y i).nf → 0 < (p.Y i).F j 1) (h : PlIn 0 w p wa ya ba) (hh : HsAt 0 w ha f.nh f.Y) :
    Calls Tryz.prog 87 #[.agg #[.int .i64 p.sec, .slice wa p.nw wc, .slice ya p.ny yc, .slice ba p.nb bc, .int .i64 p.hold], .agg #[.bool f.ok, .slice oa f.no oc, .slice pa f.np pc, .slice ha f.nh hc], .int .i64 (i : Int), .int .i64 (x : Int)] w fun e w' => WtR w p f i x e w' := by
  have hny := hs.2.1
  have hnw : p.nw ≤ 1048576 := hs.1
  have hsm := hs.2.2.1 i hi
  obtain ⟨yb, yo, rfl, _, hyl, hcy⟩ := h.wy (by omega)
  obtain ⟨sa, sc, la, lc, fa, fc, oo, oc2, ma, mc, _, x1, x2, _, _, hy⟩ := hcy i hi
  obtain ⟨fb, fo, rfl, _, hfl, hcf⟩ := hh (by omega)
  obtain ⟨ra, rc, y0, _, _, _, _, _⟩ := hcf i hif
  obtain ⟨sb, so, rfl, _, hsl, hcs⟩ := h.sw (by omega)
  have s0 : w.cell? ⟨sb, so + x, none⟩ = some (.int .i64 (p.W x)) := by have := hcs x hx 0 (by omega); rwa [Nat.mul_one] at this
  have HSW : Hid (sb < w.heap.size ∧ w.cell? ⟨sb, so + x, none⟩ = some (.int .i64 (p.W x))) := ⟨hsl, s0⟩
  have H : Hid (p.small ∧ f.nh ≤ 1048576 ∧ PlIn 0 w p (some ⟨sb, so, none⟩) (some ⟨yb, yo, none⟩) ba ∧ HsAt 0 w (some ⟨fb, fo, none⟩) f.nh f.Y) := ⟨hs, hnh, h, hh⟩
  have HL : Hid (VsAt 2 0 w la (p.Y i).nl (intF (p.Y i).L)) := hy.l
  have HFl : Hid (VsAt 2 0 w fa (p.Y i).nf (intF (p.Y i).F)) := hy.f
  have HL1 : Hid (∀ j, j < (p.Y i).nl → 0 < (p.Y i).L j 1) := hL
  have HF1 : Hid (∀ j, j < (p.Y i).nf → 0 < (p.Y i).F j 1) := hF
  have hnl : (p.Y i).nl ≤ 1048576 := by have := hsm.2.1; omega
  have hnf : (p.Y i).nf ≤ 1048576 := by have := hsm.2.2.1; omega
  have HX1 : Hid (yb < w.heap.size ∧ w.cell? ⟨yb, yo + i * 5 + 1, none⟩ = some (.slice la (p.Y i).nl lc)) := ⟨hyl, x1⟩
  clear hcy hy hcf hcs s0 hsm h hh hL hF hs x1
  have hi0 : (0 : Int) ≤ (i : Int) := by omega
  have hin : (i : Int) < (p.ny : Int) := by omega
  have hin2 : (i : Int) < (f.nh : Int) := by omega
  have hx0 : (0 : Int) ≤ (x : Int) := by omega
  have hxn : (x : Int) < (p.nw : Int) := by omega
  have S0 : Hid (Below w.heap.size w ((w.alloc (.cells #[.int .i64 p.sec, .slice (some ⟨sb, so, none⟩) p.nw wc, .slice (some ⟨yb, yo, none⟩) p.ny yc, .slice ba p.nb bc, .int .i64 p.hold] 37)).alloc (.cells #[.bool f.ok, .slice oa f.no oc, .slice pa f.np pc, .slice (some ⟨fb, fo, none⟩) f.nh hc] 42)) ∧ Box ((w.alloc (.cells #[.int .i64 p.sec, .slice (some ⟨sb, so, none⟩) p.nw wc, .slice (some ⟨yb, yo, none⟩) p.ny yc, .slice ba p.nb bc, .int .i64 p.hold] 37)).alloc (.cells #[.bool f.ok, .slice oa f.no oc, .slice pa f.np pc, .slice (some ⟨fb, fo, none⟩) f.nh hc] 42)) w.heap.size 37 #[.int .i64 p.sec, .slice (some ⟨sb, so, none⟩) p.nw wc, .slice (some ⟨yb, yo, none⟩) p.ny yc, .slice ba p.nb bc, .int .i64 p.hold] ∧ Box ((w.alloc (.cells #[.int .i64 p.sec, .slice (some ⟨sb, so, none⟩) p.nw wc, .slice (some ⟨yb, yo, none⟩) p.ny yc, .slice ba p.nb bc, .int .i64 p.hold] 37)).alloc (.cells #[.bool f.ok, .slice oa f.no oc, .slice pa f.np pc, .slice (some ⟨fb, fo, none⟩) f.nh hc] 42)) (w.heap.size + 1) 42 #[.bool f.ok, .slice oa f.no oc, .slice pa f.np pc, .slice (some ⟨fb, fo, none⟩) f.nh hc]) := ⟨bel2 _ _ _, (Box.new _ _ _).alloc _, by have := Box.new (w.alloc (.cells #[.int .i64 p.sec, .slice (some ⟨sb, so, none⟩) p.nw wc, .slice (some ⟨yb, yo, none⟩) p.ny yc, .slice ba p.nb bc, .int .i64 p.hold] 37)) 42 #[.bool f.ok, .slice oa f.no oc, .slice pa f.np pc, .slice (some ⟨fb, fo, none⟩) f.nh hc]; simpa using this⟩
  by_cases h0 : (f.Y i).st = 0
  · have HE : Hid (WtR w p f i x (.returned (.int .i64 0)) ((w.alloc (.cells #[.int .i64 p.sec, .slice (some ⟨sb, so, none⟩) p.nw wc, .slice (some ⟨yb, yo, none⟩) p.ny yc, .slice ba p.nb bc, .int .i64 p.hold] 37)).alloc (.cells #[.bool f.ok, .slice oa f.no oc, .slice pa f.np pc, .slice (some ⟨fb, fo, none⟩) f.nh hc] 42))) := ⟨_, rfl, by simp [wantsB, h0], S0.out.1⟩
    have zz : ((f.Y i).st == 0) = true := by simpa using h0
    clear h0
    go_enter Tryz.func87, Tryz.ntmps87
    go_wp2_with fail
    go_ret
    exact HE.out
  have HWT : Hid (wantsB p f i x = (anyB (fun j => decide ((p.Y i).F j 0 = (x : Int))) (p.Y i).nf || (anyB (fun j => decide ((p.Y i).L j 0 = (x : Int))) (p.Y i).nl && holdsB p f i (p.W x)))) := by simp [Hid, wantsB, h0]
  have zz : ((f.Y i).st == 0) = false := by simpa using h0
  clear h0
  go_enter Tryz.func87, Tryz.ntmps87
  go_wp2_with fail
  clear zz y0 x2
  go_loopw [27] (fun c wr => ∃ k : Nat, k ≤ (p.Y i).nf ∧ c = .int .i64 k ∧ Hid (∀ j, j < k → decide ((p.Y i).F j 0 = (x : Int)) = false) ∧ Hid (Below w.heap.size w wr ∧ Box wr w.heap.size 37 #[.int .i64 p.sec, .slice (some ⟨sb, so, none⟩) p.nw wc, .slice (some ⟨yb, yo, none⟩) p.ny yc, .slice ba p.nb bc, .int .i64 p.hold] ∧ Box wr (w.heap.size + 1) 42 #[.bool f.ok, .slice oa f.no oc, .slice pa f.np pc, .slice (some ⟨fb, fo, none⟩) f.nh hc])) (fun c _ => (p.Y i).nf - (intOf c).toNat)
  case atStart => exact ⟨0, Nat.zero_le _, rfl, fun j hj => absurd hj (Nat.not_lt_zero _), S0⟩
  case round =>
    clear S0
    obtain ⟨k, hk, rfl, HQ, S1⟩ := hrel
    by_cases hlt : k < (p.Y i).nf
    · obtain ⟨b, off, rfl, _, hb, hc⟩ := HFl.out.mono (Nat.le_refl _) S1.out.1 (Nat.le_refl _) (by omega)
      have c0 : wr.cell? ⟨b, off + k * 2, none⟩ = some (.int .i64 ((p.Y i).F k 0)) := hc k hlt 0 (by omega)
      have c1 : wr.cell? ⟨b, off + k * 2 + 1, none⟩ = some (.int .i64 ((p.Y i).F k 1)) := hc k hlt 1 (by omega)
      have hk0 : (0 : Int) ≤ (k : Int) := by omega
      have hkn : (k : Int) < ((p.Y i).nf : Int) := by omega
      clear hc
      have S2 : Hid (Below w.heap.size w (wr.alloc (.cells #[.int .i64 ((p.Y i).F k 0), .int .i64 ((p.Y i).F k 1)] 133)) ∧ Box (wr.alloc (.cells #[.int .i64 ((p.Y i).F k 0), .int .i64 ((p.Y i).F k 1)] 133)) w.heap.size 37 #[.int .i64 p.sec, .slice (some ⟨sb, so, none⟩) p.nw wc, .slice (some ⟨yb, yo, none⟩) p.ny yc, .slice ba p.nb bc, .int .i64 p.hold] ∧ Box (wr.alloc (.cells #[.int .i64 ((p.Y i).F k 0), .int .i64 ((p.Y i).F k 1)] 133)) (w.heap.size + 1) 42 #[.bool f.ok, .slice oa f.no oc, .slice pa f.np pc, .slice (some ⟨fb, fo, none⟩) f.nh hc]) := ⟨S1.out.1.alloc S1.out.1.size _, S1.out.2.1.alloc _, S1.out.2.2.alloc _⟩
      by_cases hB : (p.Y i).F k 0 = (x : Int)
      · have HT : Hid (anyB (fun j => decide ((p.Y i).F j 0 = (x : Int))) (p.Y i).nf = true) := anyB_yes hlt (by simpa using hB)
        have HE : Hid (WtR w p f i x (.returned (.int .i64 ((p.Y i).F k 1))) (wr.alloc (.cells #[.int .i64 ((p.Y i).F k 0), .int .i64 ((p.Y i).F k 1)] 133))) := ⟨_, rfl, by rw [HWT.out, HT.out]; simpa using (HF1.out k hlt), S2.out.1⟩
        have zz : ((p.Y i).F k 0 == (x : Int)) = true := by simpa using hB
        clear hB HT
        go_wp2_with fail
        go_ret
        exact HE.out
      · have HQ2 : Hid (∀ j, j < k + 1 → decide ((p.Y i).F j 0 = (x : Int)) = false) := fun j hj => by
          by_cases c : j = k
          · subst c
            simpa using hB
          · exact HQ.out j (by omega)
        have zz : ((p.Y i).F k 0 == (x : Int)) = false := by simpa using hB
        clear hB
        go_wp2_with fail
        go_roundw
        case rel => exact ⟨k + 1, by omega, by go_num, HQ2, S2⟩
        case measure => simp [intOf]; omega
    · have HF0 : Hid (anyB (fun j => decide ((p.Y i).F j 0 = (x : Int))) (p.Y i).nf = false) := anyB_no fun j hj => HQ.out j (by omega)
      have hge : ¬ ((k : Int) < ((p.Y i).nf : Int)) := by omega
      have a2 : wr.cell? ⟨w.heap.size, 2, none⟩ = some (.slice (some ⟨yb, yo, none⟩) p.ny yc) := S1.out.2.1.cell 2
      have x1 : wr.cell? ⟨yb, yo + i * 5 + 1, none⟩ = some (.slice la (p.Y i).nl lc) := (S1.out.1.cell (p := ⟨yb, yo + i * 5 + 1, none⟩) HX1.out.1).trans HX1.out.2
      go_wp2_with fail
      clear a2 x1 hge HQ hk
      obtain ⟨WR, hWR⟩ : ∃ W, W = wr := ⟨wr, rfl⟩
      rw [← hWR] at S1
      rw [← hWR]
      clear hWR
      go_loopw [45] (fun c wr => ∃ k : Nat, k ≤ (p.Y i).nl ∧ c = .int .i64 k ∧ Hid (∀ j, j < k → (decide ((p.Y i).L j 0 = (x : Int)) && holdsB p f i (p.W x)) = false) ∧ Hid (Below w.heap.size w wr ∧ Box wr w.heap.size 37 #[.int .i64 p.sec, .slice (some ⟨sb, so, none⟩) p.nw wc, .slice (some ⟨yb, yo, none⟩) p.ny yc, .slice ba p.nb bc, .int .i64 p.hold] ∧ Box wr (w.heap.size + 1) 42 #[.bool f.ok, .slice oa f.no oc, .slice pa f.np pc, .slice (some ⟨fb, fo, none⟩) f.nh hc])) (fun c _ => (p.Y i).nl - (intOf c).toNat)
      case atStart => exact ⟨0, Nat.zero_le _, rfl, fun j hj => absurd hj (Nat.not_lt_zero _), S1⟩
      case round =>
        clear S1
        obtain ⟨k, hk, rfl, HQ, S1⟩ := hrel
        by_cases hlt : k < (p.Y i).nl
        · obtain ⟨b, off, rfl, _, hb, hc⟩ := HL.out.mono (Nat.le_refl _) S1.out.1 (Nat.le_refl _) (by omega)
          have c0 : wr.cell? ⟨b, off + k * 2, none⟩ = some (.int .i64 ((p.Y i).L k 0)) := hc k hlt 0 (by omega)
          have c1 : wr.cell? ⟨b, off + k * 2 + 1, none⟩ = some (.int .i64 ((p.Y i).L k 1)) := hc k hlt 1 (by omega)
          have hk0 : (0 : Int) ≤ (k : Int) := by omega
          have hkn : (k : Int) < ((p.Y i).nl : Int) := by omega
          clear hc
          have TV : Hid ((Below w.heap.size w (wr.alloc (.cells #[.int .i64 ((p.Y i).L k 0), .int .i64 ((p.Y i).L k 1)] 133)) ∧ Box (wr.alloc (.cells #[.int .i64 ((p.Y i).L k 0), .int .i64 ((p.Y i).L k 1)] 133)) w.heap.size 37 #[.int .i64 p.sec, .slice (some ⟨sb, so, none⟩) p.nw wc, .slice (some ⟨yb, yo, none⟩) p.ny yc, .slice ba p.nb bc, .int .i64 p.hold] ∧ Box (wr.alloc (.cells #[.int .i64 ((p.Y i).L k 0), .int .i64 ((p.Y i).L k 1)] 133)) (w.heap.size + 1) 42 #[.bool f.ok, .slice oa f.no oc, .slice pa f.np pc, .slice (some ⟨fb, fo, none⟩) f.nh hc]) ∧ Box (wr.alloc (.cells #[.int .i64 ((p.Y i).L k 0), .int .i64 ((p.Y i).L k 1)] 133)) wr.heap.size 133 #[.int .i64 ((p.Y i).L k 0), .int .i64 ((p.Y i).L k 1)]) := ⟨⟨S1.out.1.alloc S1.out.1.size _, S1.out.2.1.alloc _, S1.out.2.2.alloc _⟩, Box.new _ _ _⟩
          clear S1
          go_wp2_with fail
          clear c0 c1
          generalize wr.alloc (.cells #[.int .i64 ((p.Y i).L k 0), .int .i64 ((p.Y i).L k 1)] 133) = V at TV ⊢
          generalize wr.heap.size = tq at TV ⊢
          have TD : Hid ((Below w.heap.size w V.drew ∧ Box V.drew w.heap.size 37 #[.int .i64 p.sec, .slice (some ⟨sb, so, none⟩) p.nw wc, .slice (some ⟨yb, yo, none⟩) p.ny yc, .slice ba p.nb bc, .int .i64 p.hold] ∧ Box V.drew (w.heap.size + 1) 42 #[.bool f.ok, .slice oa f.no oc, .slice pa f.np pc, .slice (some ⟨fb, fo, none⟩) f.nh hc]) ∧ Box V.drew tq 133 #[.int .i64 ((p.Y i).L k 0), .int .i64 ((p.Y i).L k 1)]) := ⟨⟨TV.out.1.1.drew, TV.out.1.2.1.drew, TV.out.1.2.2.drew⟩, TV.out.2.drew⟩
          by_cases hB : (p.Y i).L k 0 = (x : Int)
          · have HB0 : Hid (decide ((p.Y i).L k 0 = (x : Int)) = true) := by simpa [Hid] using hB
            have zz : ((p.Y i).L k 0 == (x : Int)) = true := by simpa using hB
            clear hB
            obtain ⟨u, HU⟩ : ∃ u, Hid (holdsB p f i (p.W x) = u) := ⟨_, rfl⟩
            cases u with
            | true =>
              refine wp_region_held_drew (S := (fun wx : World => wx.cell? ⟨tq, 0, none⟩ = some (.int .i64 ((p.Y i).L k 0)) ∧ wx.cell? ⟨w.heap.size, 0, none⟩ = some (.int .i64 p.sec) ∧ wx.cell? ⟨w.heap.size, 1, none⟩ = some (.slice (some ⟨sb, so, none⟩) p.nw wc) ∧ wx.cell? ⟨w.heap.size, 2, none⟩ = some (.slice (some ⟨yb, yo, none⟩) p.ny yc) ∧ wx.cell? ⟨w.heap.size, 3, none⟩ = some (.slice ba p.nb bc) ∧ wx.cell? ⟨w.heap.size, 4, none⟩ = some (.int .i64 p.hold) ∧ wx.cell? ⟨(w.heap.size + 1), 0, none⟩ = some (.bool f.ok) ∧ wx.cell? ⟨(w.heap.size + 1), 1, none⟩ = some (.slice oa f.no oc) ∧ wx.cell? ⟨(w.heap.size + 1), 2, none⟩ = some (.slice pa f.np pc) ∧ wx.cell? ⟨(w.heap.size + 1), 3, none⟩ = some (.slice (some ⟨fb, fo, none⟩) f.nh hc) ∧ wx.cell? ⟨sb, so + x, none⟩ = some (.int .i64 (p.W x)))) (by kernel_rfl) ?_ (fun hHeld => ?_)
              · exact ⟨TV.out.2.cell 0, TV.out.1.2.1.cell 0, TV.out.1.2.1.cell 1, TV.out.1.2.1.cell 2, TV.out.1.2.1.cell 3, TV.out.1.2.1.cell 4, TV.out.1.2.2.cell 0, TV.out.1.2.2.cell 1, TV.out.1.2.2.cell 2, TV.out.1.2.2.cell 3, (TV.out.1.1.cell (p := ⟨sb, so + x, none⟩) HSW.out.1).trans HSW.out.2⟩
              refine take_lit (i := 0) (v := ?vr1x0) rfl (by kernel_rfl) (by kernel_rfl) (by kernel_rfl) (fun _ _ _ h => h) (Or.inl ⟨by rfl, ?hyr1x0⟩) (by assumption) ?restr1x0
              case hyr1x0 => (intro wq hSw; (try dsimp only at hSw); go_simp; try with_reducible rfl)
              simp only [Act.put, List.setIfInBounds_toArray, List.set_cons_zero, List.set_cons_succ]
              refine take_lit (i := 1) (v := ?vr1x1) rfl (by kernel_rfl) (by kernel_rfl) (by kernel_rfl) (fun _ _ _ h => h) (Or.inl ⟨by rfl, ?hyr1x1⟩) (by assumption) ?restr1x1
              case hyr1x1 => (intro wq hSw; (try dsimp only at hSw); go_simp; try with_reducible rfl)
              simp only [Act.put, List.setIfInBounds_toArray, List.set_cons_zero, List.set_cons_succ]
              refine take_lit (i := 2) (v := ?vr1x2) rfl (by kernel_rfl) (by kernel_rfl) (by kernel_rfl) (fun _ _ _ h => h) (Or.inl ⟨by rfl, ?hyr1x2⟩) (by assumption) ?restr1x2
              case hyr1x2 => (intro wq hSw; (try dsimp only at hSw); go_simp; try with_reducible rfl)
              simp only [Act.put, List.setIfInBounds_toArray, List.set_cons_zero, List.set_cons_succ]
              refine take_lit (i := 3) (v := ?vr1x3) rfl (by kernel_rfl) (by kernel_rfl) (by kernel_rfl) (fun _ _ _ h => h) (Or.inl ⟨by rfl, ?hyr1x3⟩) (by assumption) ?restr1x3
              case hyr1x3 => (intro wq hSw; (try dsimp only at hSw); go_simp; try with_reducible rfl)
              simp only [Act.put, List.setIfInBounds_toArray, List.set_cons_zero, List.set_cons_succ]
              refine take_lit (i := 4) (v := ?vr1x4) rfl (by kernel_rfl) (by kernel_rfl) (by kernel_rfl) (fun _ _ _ h => h) (Or.inl ⟨by rfl, ?hyr1x4⟩) (by assumption) ?restr1x4
              case hyr1x4 => (intro wq hSw; (try dsimp only at hSw); go_simp; try with_reducible rfl)
              simp only [Act.put, List.setIfInBounds_toArray, List.set_cons_zero, List.set_cons_succ]
              refine take_lit (i := 5) (v := ?vr1x5) rfl (by kernel_rfl) (by kernel_rfl) (by kernel_rfl) (fun _ _ _ h => h) (Or.inl ⟨by rfl, ?hyr1x5⟩) (by assumption) ?restr1x5
              case hyr1x5 => (intro wq hSw; (try dsimp only at hSw); go_simp; try with_reducible rfl)
              simp only [Act.put, List.setIfInBounds_toArray, List.set_cons_zero, List.set_cons_succ]
              refine take_lit (i := 6) (v := ?vr1x6) rfl (by kernel_rfl) (by kernel_rfl) (by kernel_rfl) (fun _ _ _ h => h) (Or.inl ⟨by rfl, ?hyr1x6⟩) (by assumption) ?restr1x6
              case hyr1x6 => (intro wq hSw; (try dsimp only at hSw); go_simp; try with_reducible rfl)
              simp only [Act.put, List.setIfInBounds_toArray, List.set_cons_zero, List.set_cons_succ]
              refine take_lit (i := 7) (v := ?vr1x7) rfl (by kernel_rfl) (by kernel_rfl) (by kernel_rfl) (fun _ _ _ h => h) (Or.inl ⟨by rfl, ?hyr1x7⟩) (by assumption) ?restr1x7
              case hyr1x7 => (intro wq hSw; (try dsimp only at hSw); go_simp; try with_reducible rfl)
              simp only [Act.put, List.setIfInBounds_toArray, List.set_cons_zero, List.set_cons_succ]
              refine take_lit (i := 8) (v := ?vr1x8) rfl (by kernel_rfl) (by kernel_rfl) (by kernel_rfl) (fun _ _ _ h => h) (Or.inl ⟨by rfl, ?hyr1x8⟩) (by assumption) ?restr1x8
              case hyr1x8 => (intro wq hSw; (try dsimp only at hSw); go_simp; try with_reducible rfl)
              simp only [Act.put, List.setIfInBounds_toArray, List.set_cons_zero, List.set_cons_succ]
              refine take_lit (i := 9) (v := ?vr1x9) rfl (by kernel_rfl) (by kernel_rfl) (by kernel_rfl) (fun _ _ _ h => h) (Or.inl ⟨by rfl, ?hyr1x9⟩) (by assumption) ?restr1x9
              case hyr1x9 => (intro wq hSw; (try dsimp only at hSw); go_simp; try with_reducible rfl)
              simp only [Act.put, List.setIfInBounds_toArray, List.set_cons_zero, List.set_cons_succ]
              refine take_lit (i := 10) (v := ?vr1x10) rfl (by kernel_rfl) (by kernel_rfl) (by kernel_rfl) (fun _ _ _ h => h) (Or.inl ⟨by rfl, ?hyr1x10⟩) (by assumption) ?restr1x10
              case hyr1x10 => (intro wq hSw; (try dsimp only at hSw); go_simp; try with_reducible rfl)
              simp only [Act.put, List.setIfInBounds_toArray, List.set_cons_zero, List.set_cons_succ]
              refine take_lit (i := 11) (v := ?vr1x11) rfl (by kernel_rfl) (by kernel_rfl) (by kernel_rfl) (fun _ _ _ h => h) (Or.inl ⟨by rfl, ?hyr1x11⟩) (by assumption) ?restr1x11
              case hyr1x11 => (intro wq hSw; (try dsimp only at hSw); go_simp; try with_reducible rfl)
              simp only [Act.put, List.setIfInBounds_toArray, List.set_cons_zero, List.set_cons_succ]
              refine take_lit (i := 12) (v := ?vr1x12) rfl (by kernel_rfl) (by kernel_rfl) (by kernel_rfl) (fun _ _ _ h => h) (Or.inl ⟨by rfl, ?hyr1x12⟩) (by assumption) ?restr1x12
              case hyr1x12 => (intro wq hSw; (try dsimp only at hSw); go_simp; try with_reducible rfl)
              simp only [Act.put, List.setIfInBounds_toArray, List.set_cons_zero, List.set_cons_succ]
              refine ready_lit (i := 13) (by kernel_rfl) rfl (fun K hK => ?_)
              go_simp
              refine (holds37 p f (some ⟨sb, so, none⟩) (some ⟨yb, yo, none⟩) ba oa pa (some ⟨fb, fo, none⟩) wc yc bc oc pc hc i (p.W x) _ H.out.1 H.out.2.1 hi hif (H.out.2.2.1.mono (Nat.le_refl _) TD.out.1.1 (Nat.le_refl _)) (H.out.2.2.2.mono (Nat.le_refl _) TD.out.1.1 (Nat.le_refl _))).mono ?_
              rintro e w5 ⟨he, hb5⟩
              have T5 : Hid ((Below w.heap.size w w5 ∧ Box w5 w.heap.size 37 #[.int .i64 p.sec, .slice (some ⟨sb, so, none⟩) p.nw wc, .slice (some ⟨yb, yo, none⟩) p.ny yc, .slice ba p.nb bc, .int .i64 p.hold] ∧ Box w5 (w.heap.size + 1) 42 #[.bool f.ok, .slice oa f.no oc, .slice pa f.np pc, .slice (some ⟨fb, fo, none⟩) f.nh hc]) ∧ Box w5 tq 133 #[.int .i64 ((p.Y i).L k 0), .int .i64 ((p.Y i).L k 1)]) := ⟨⟨TD.out.1.1.trans (hb5.mono TD.out.1.1.size), TD.out.1.2.1.mono hb5 (Nat.le_refl _), TD.out.1.2.2.mono hb5 (Nat.le_refl _)⟩, TD.out.2.mono hb5 (Nat.le_refl _)⟩
              clear hb5
              rw [HU.out] at he
              subst he
              go_wp2_with fail
              refine hK.out _ _ ?_ (fun hHeld13 => ?_)
              · exact ⟨T5.out.2.cell 0, T5.out.1.2.1.cell 0, T5.out.1.2.1.cell 1, T5.out.1.2.1.cell 2, T5.out.1.2.1.cell 3, T5.out.1.2.1.cell 4, T5.out.1.2.2.cell 0, T5.out.1.2.2.cell 1, T5.out.1.2.2.cell 2, T5.out.1.2.2.cell 3, (T5.out.1.1.cell (p := ⟨sb, so + x, none⟩) HSW.out.1).trans HSW.out.2⟩
              clear hK K
              refine take_lit (i := 14) (v := ?vr1x14) rfl (by kernel_rfl) (by kernel_rfl) (by kernel_rfl) (fun _ _ _ h => h) (Or.inl ⟨by rfl, ?hyr1x14⟩) (by assumption) ?restr1x14
              case hyr1x14 => (intro wq hSw; (try dsimp only at hSw); go_simp; try with_reducible rfl)
              simp only [Act.put, List.setIfInBounds_toArray, List.set_cons_zero, List.set_cons_succ]
              refine wpAnyH_done (by kernel_rfl) ?_ _
              have HT : Hid (anyB (fun j => decide ((p.Y i).L j 0 = (x : Int))) (p.Y i).nl = true) := anyB_yes hlt HB0.out
              have t1 : w5.cell? ⟨tq, 1, none⟩ = some (.int .i64 ((p.Y i).L k 1)) := T5.out.2.cell 1
              have HE : Hid (WtR w p f i x (.returned (.int .i64 ((p.Y i).L k 1))) w5) := ⟨_, rfl, by rw [HWT.out, HF0.out, HT.out, HU.out]; simpa using (HL1.out k hlt), T5.out.1.1⟩
              clear HT T5
              go_wp2_with fail
              go_ret
              exact HE.out
            | false =>
              refine wp_region_held_drew (S := (fun wx : World => wx.cell? ⟨tq, 0, none⟩ = some (.int .i64 ((p.Y i).L k 0)) ∧ wx.cell? ⟨w.heap.size, 0, none⟩ = some (.int .i64 p.sec) ∧ wx.cell? ⟨w.heap.size, 1, none⟩ = some (.slice (some ⟨sb, so, none⟩) p.nw wc) ∧ wx.cell? ⟨w.heap.size, 2, none⟩ = some (.slice (some ⟨yb, yo, none⟩) p.ny yc) ∧ wx.cell? ⟨w.heap.size, 3, none⟩ = some (.slice ba p.nb bc) ∧ wx.cell? ⟨w.heap.size, 4, none⟩ = some (.int .i64 p.hold) ∧ wx.cell? ⟨(w.heap.size + 1), 0, none⟩ = some (.bool f.ok) ∧ wx.cell? ⟨(w.heap.size + 1), 1, none⟩ = some (.slice oa f.no oc) ∧ wx.cell? ⟨(w.heap.size + 1), 2, none⟩ = some (.slice pa f.np pc) ∧ wx.cell? ⟨(w.heap.size + 1), 3, none⟩ = some (.slice (some ⟨fb, fo, none⟩) f.nh hc) ∧ wx.cell? ⟨sb, so + x, none⟩ = some (.int .i64 (p.W x)))) (by kernel_rfl) ?_ (fun hHeld => ?_)
              · exact ⟨TV.out.2.cell 0, TV.out.1.2.1.cell 0, TV.out.1.2.1.cell 1, TV.out.1.2.1.cell 2, TV.out.1.2.1.cell 3, TV.out.1.2.1.cell 4, TV.out.1.2.2.cell 0, TV.out.1.2.2.cell 1, TV.out.1.2.2.cell 2, TV.out.1.2.2.cell 3, (TV.out.1.1.cell (p := ⟨sb, so + x, none⟩) HSW.out.1).trans HSW.out.2⟩
              refine take_lit (i := 0) (v := ?vr2x0) rfl (by kernel_rfl) (by kernel_rfl) (by kernel_rfl) (fun _ _ _ h => h) (Or.inl ⟨by rfl, ?hyr2x0⟩) (by assumption) ?restr2x0
              case hyr2x0 => (intro wq hSw; (try dsimp only at hSw); go_simp; try with_reducible rfl)
              simp only [Act.put, List.setIfInBounds_toArray, List.set_cons_zero, List.set_cons_succ]
              refine take_lit (i := 1) (v := ?vr2x1) rfl (by kernel_rfl) (by kernel_rfl) (by kernel_rfl) (fun _ _ _ h => h) (Or.inl ⟨by rfl, ?hyr2x1⟩) (by assumption) ?restr2x1
              case hyr2x1 => (intro wq hSw; (try dsimp only at hSw); go_simp; try with_reducible rfl)
              simp only [Act.put, List.setIfInBounds_toArray, List.set_cons_zero, List.set_cons_succ]
              refine take_lit (i := 2) (v := ?vr2x2) rfl (by kernel_rfl) (by kernel_rfl) (by kernel_rfl) (fun _ _ _ h => h) (Or.inl ⟨by rfl, ?hyr2x2⟩) (by assumption) ?restr2x2
              case hyr2x2 => (intro wq hSw; (try dsimp only at hSw); go_simp; try with_reducible rfl)
              simp only [Act.put, List.setIfInBounds_toArray, List.set_cons_zero, List.set_cons_succ]
              refine take_lit (i := 3) (v := ?vr2x3) rfl (by kernel_rfl) (by kernel_rfl) (by kernel_rfl) (fun _ _ _ h => h) (Or.inl ⟨by rfl, ?hyr2x3⟩) (by assumption) ?restr2x3
              case hyr2x3 => (intro wq hSw; (try dsimp only at hSw); go_simp; try with_reducible rfl)
              simp only [Act.put, List.setIfInBounds_toArray, List.set_cons_zero, List.set_cons_succ]
              refine take_lit (i := 4) (v := ?vr2x4) rfl (by kernel_rfl) (by kernel_rfl) (by kernel_rfl) (fun _ _ _ h => h) (Or.inl ⟨by rfl, ?hyr2x4⟩) (by assumption) ?restr2x4
              case hyr2x4 => (intro wq hSw; (try dsimp only at hSw); go_simp; try with_reducible rfl)
              simp only [Act.put, List.setIfInBounds_toArray, List.set_cons_zero, List.set_cons_succ]
              refine take_lit (i := 5) (v := ?vr2x5) rfl (by kernel_rfl) (by kernel_rfl) (by kernel_rfl) (fun _ _ _ h => h) (Or.inl ⟨by rfl, ?hyr2x5⟩) (by assumption) ?restr2x5
              case hyr2x5 => (intro wq hSw; (try dsimp only at hSw); go_simp; try with_reducible rfl)
              simp only [Act.put, List.setIfInBounds_toArray, List.set_cons_zero, List.set_cons_succ]
              refine take_lit (i := 6) (v := ?vr2x6) rfl (by kernel_rfl) (by kernel_rfl) (by kernel_rfl) (fun _ _ _ h => h) (Or.inl ⟨by rfl, ?hyr2x6⟩) (by assumption) ?restr2x6
              case hyr2x6 => (intro wq hSw; (try dsimp only at hSw); go_simp; try with_reducible rfl)
              simp only [Act.put, List.setIfInBounds_toArray, List.set_cons_zero, List.set_cons_succ]
              refine take_lit (i := 7) (v := ?vr2x7) rfl (by kernel_rfl) (by kernel_rfl) (by kernel_rfl) (fun _ _ _ h => h) (Or.inl ⟨by rfl, ?hyr2x7⟩) (by assumption) ?restr2x7
              case hyr2x7 => (intro wq hSw; (try dsimp only at hSw); go_simp; try with_reducible rfl)
              simp only [Act.put, List.setIfInBounds_toArray, List.set_cons_zero, List.set_cons_succ]
              refine take_lit (i := 8) (v := ?vr2x8) rfl (by kernel_rfl) (by kernel_rfl) (by kernel_rfl) (fun _ _ _ h => h) (Or.inl ⟨by rfl, ?hyr2x8⟩) (by assumption) ?restr2x8
              case hyr2x8 => (intro wq hSw; (try dsimp only at hSw); go_simp; try with_reducible rfl)
              simp only [Act.put, List.setIfInBounds_toArray, List.set_cons_zero, List.set_cons_succ]
              refine take_lit (i := 9) (v := ?vr2x9) rfl (by kernel_rfl) (by kernel_rfl) (by kernel_rfl) (fun _ _ _ h => h) (Or.inl ⟨by rfl, ?hyr2x9⟩) (by assumption) ?restr2x9
              case hyr2x9 => (intro wq hSw; (try dsimp only at hSw); go_simp; try with_reducible rfl)
              simp only [Act.put, List.setIfInBounds_toArray, List.set_cons_zero, List.set_cons_succ]
              refine take_lit (i := 10) (v := ?vr2x10) rfl (by kernel_rfl) (by kernel_rfl) (by kernel_rfl) (fun _ _ _ h => h) (Or.inl ⟨by rfl, ?hyr2x10⟩) (by assumption) ?restr2x10
              case hyr2x10 => (intro wq hSw; (try dsimp only at hSw); go_simp; try with_reducible rfl)
              simp only [Act.put, List.setIfInBounds_toArray, List.set_cons_zero, List.set_cons_succ]
              refine take_lit (i := 11) (v := ?vr2x11) rfl (by kernel_rfl) (by kernel_rfl) (by kernel_rfl) (fun _ _ _ h => h) (Or.inl ⟨by rfl, ?hyr2x11⟩) (by assumption) ?restr2x11
              case hyr2x11 => (intro wq hSw; (try dsimp only at hSw); go_simp; try with_reducible rfl)
              simp only [Act.put, List.setIfInBounds_toArray, List.set_cons_zero, List.set_cons_succ]
              refine take_lit (i := 12) (v := ?vr2x12) rfl (by kernel_rfl) (by kernel_rfl) (by kernel_rfl) (fun _ _ _ h => h) (Or.inl ⟨by rfl, ?hyr2x12⟩) (by assumption) ?restr2x12
              case hyr2x12 => (intro wq hSw; (try dsimp only at hSw); go_simp; try with_reducible rfl)
              simp only [Act.put, List.setIfInBounds_toArray, List.set_cons_zero, List.set_cons_succ]
              refine ready_lit (i := 13) (by kernel_rfl) rfl (fun K hK => ?_)
              go_simp
              refine (holds37 p f (some ⟨sb, so, none⟩) (some ⟨yb, yo, none⟩) ba oa pa (some ⟨fb, fo, none⟩) wc yc bc oc pc hc i (p.W x) _ H.out.1 H.out.2.1 hi hif (H.out.2.2.1.mono (Nat.le_refl _) TD.out.1.1 (Nat.le_refl _)) (H.out.2.2.2.mono (Nat.le_refl _) TD.out.1.1 (Nat.le_refl _))).mono ?_
              rintro e w5 ⟨he, hb5⟩
              have T5 : Hid ((Below w.heap.size w w5 ∧ Box w5 w.heap.size 37 #[.int .i64 p.sec, .slice (some ⟨sb, so, none⟩) p.nw wc, .slice (some ⟨yb, yo, none⟩) p.ny yc, .slice ba p.nb bc, .int .i64 p.hold] ∧ Box w5 (w.heap.size + 1) 42 #[.bool f.ok, .slice oa f.no oc, .slice pa f.np pc, .slice (some ⟨fb, fo, none⟩) f.nh hc]) ∧ Box w5 tq 133 #[.int .i64 ((p.Y i).L k 0), .int .i64 ((p.Y i).L k 1)]) := ⟨⟨TD.out.1.1.trans (hb5.mono TD.out.1.1.size), TD.out.1.2.1.mono hb5 (Nat.le_refl _), TD.out.1.2.2.mono hb5 (Nat.le_refl _)⟩, TD.out.2.mono hb5 (Nat.le_refl _)⟩
              clear hb5
              rw [HU.out] at he
              subst he
              go_wp2_with fail
              refine hK.out _ _ ?_ (fun hHeld13 => ?_)
              · exact ⟨T5.out.2.cell 0, T5.out.1.2.1.cell 0, T5.out.1.2.1.cell 1, T5.out.1.2.1.cell 2, T5.out.1.2.1.cell 3, T5.out.1.2.1.cell 4, T5.out.1.2.2.cell 0, T5.out.1.2.2.cell 1, T5.out.1.2.2.cell 2, T5.out.1.2.2.cell 3, (T5.out.1.1.cell (p := ⟨sb, so + x, none⟩) HSW.out.1).trans HSW.out.2⟩
              clear hK K
              refine take_lit (i := 14) (v := ?vr2x14) rfl (by kernel_rfl) (by kernel_rfl) (by kernel_rfl) (fun _ _ _ h => h) (Or.inl ⟨by rfl, ?hyr2x14⟩) (by assumption) ?restr2x14
              case hyr2x14 => (intro wq hSw; (try dsimp only at hSw); go_simp; try with_reducible rfl)
              simp only [Act.put, List.setIfInBounds_toArray, List.set_cons_zero, List.set_cons_succ]
              refine wpAnyH_done (by kernel_rfl) ?_ _
              have HQ2 : Hid (∀ j, j < k + 1 → (decide ((p.Y i).L j 0 = (x : Int)) && holdsB p f i (p.W x)) = false) := fun j _ => by rw [HU.out, Bool.and_false]
              have S5 : Hid (Below w.heap.size w w5 ∧ Box w5 w.heap.size 37 #[.int .i64 p.sec, .slice (some ⟨sb, so, none⟩) p.nw wc, .slice (some ⟨yb, yo, none⟩) p.ny yc, .slice ba p.nb bc, .int .i64 p.hold] ∧ Box w5 (w.heap.size + 1) 42 #[.bool f.ok, .slice oa f.no oc, .slice pa f.np pc, .slice (some ⟨fb, fo, none⟩) f.nh hc]) := T5.out.1
              clear T5
              go_wp2_with fail
              go_roundw
              case rel => exact ⟨k + 1, by omega, by go_num, HQ2, S5⟩
              case measure => simp [intOf]; omega
          · have HQ2 : Hid (∀ j, j < k + 1 → (decide ((p.Y i).L j 0 = (x : Int)) && holdsB p f i (p.W x)) = false) := fun j hj => by
              by_cases c : j = k
              · subst c
                simp [hB]
              · exact HQ.out j (by omega)
            have zz : ((p.Y i).L k 0 == (x : Int)) = false := by simpa using hB
            clear hB
            refine wp_region_held_drew (S := (fun wx : World => wx.cell? ⟨tq, 0, none⟩ = some (.int .i64 ((p.Y i).L k 0)) ∧ wx.cell? ⟨w.heap.size, 0, none⟩ = some (.int .i64 p.sec) ∧ wx.cell? ⟨w.heap.size, 1, none⟩ = some (.slice (some ⟨sb, so, none⟩) p.nw wc) ∧ wx.cell? ⟨w.heap.size, 2, none⟩ = some (.slice (some ⟨yb, yo, none⟩) p.ny yc) ∧ wx.cell? ⟨w.heap.size, 3, none⟩ = some (.slice ba p.nb bc) ∧ wx.cell? ⟨w.heap.size, 4, none⟩ = some (.int .i64 p.hold) ∧ wx.cell? ⟨(w.heap.size + 1), 0, none⟩ = some (.bool f.ok) ∧ wx.cell? ⟨(w.heap.size + 1), 1, none⟩ = some (.slice oa f.no oc) ∧ wx.cell? ⟨(w.heap.size + 1), 2, none⟩ = some (.slice pa f.np pc) ∧ wx.cell? ⟨(w.heap.size + 1), 3, none⟩ = some (.slice (some ⟨fb, fo, none⟩) f.nh hc) ∧ wx.cell? ⟨sb, so + x, none⟩ = some (.int .i64 (p.W x)))) (by kernel_rfl) ?_ (fun hHeld => ?_)
            · exact ⟨TV.out.2.cell 0, TV.out.1.2.1.cell 0, TV.out.1.2.1.cell 1, TV.out.1.2.1.cell 2, TV.out.1.2.1.cell 3, TV.out.1.2.1.cell 4, TV.out.1.2.2.cell 0, TV.out.1.2.2.cell 1, TV.out.1.2.2.cell 2, TV.out.1.2.2.cell 3, (TV.out.1.1.cell (p := ⟨sb, so + x, none⟩) HSW.out.1).trans HSW.out.2⟩
            refine take_lit (i := 0) (v := ?vr3x0) rfl (by kernel_rfl) (by kernel_rfl) (by kernel_rfl) (fun _ _ _ h => h) (Or.inl ⟨by rfl, ?hyr3x0⟩) (by assumption) ?restr3x0
            case hyr3x0 => (intro wq hSw; (try dsimp only at hSw); go_simp; try with_reducible rfl)
            simp only [Act.put, List.setIfInBounds_toArray, List.set_cons_zero, List.set_cons_succ]
            refine take_lit (i := 1) (v := ?vr3x1) rfl (by kernel_rfl) (by kernel_rfl) (by kernel_rfl) (fun _ _ _ h => h) (Or.inl ⟨by rfl, ?hyr3x1⟩) (by assumption) ?restr3x1
            case hyr3x1 => (intro wq hSw; (try dsimp only at hSw); go_simp; try with_reducible rfl)
            simp only [Act.put, List.setIfInBounds_toArray, List.set_cons_zero, List.set_cons_succ]
            refine take_lit (i := 2) (v := ?vr3x2) rfl (by kernel_rfl) (by kernel_rfl) (by kernel_rfl) (fun _ _ _ h => h) (Or.inl ⟨by rfl, ?hyr3x2⟩) (by assumption) ?restr3x2
            case hyr3x2 => (intro wq hSw; (try dsimp only at hSw); go_simp; try with_reducible rfl)
            simp only [Act.put, List.setIfInBounds_toArray, List.set_cons_zero, List.set_cons_succ]
            refine take_lit (i := 3) (v := ?vr3x3) rfl (by kernel_rfl) (by kernel_rfl) (by kernel_rfl) (fun _ _ _ h => h) (Or.inl ⟨by rfl, ?hyr3x3⟩) (by assumption) ?restr3x3
            case hyr3x3 => (intro wq hSw; (try dsimp only at hSw); go_simp; try with_reducible rfl)
            simp only [Act.put, List.setIfInBounds_toArray, List.set_cons_zero, List.set_cons_succ]
            refine take_lit (i := 4) (v := ?vr3x4) rfl (by kernel_rfl) (by kernel_rfl) (by kernel_rfl) (fun _ _ _ h => h) (Or.inl ⟨by rfl, ?hyr3x4⟩) (by assumption) ?restr3x4
            case hyr3x4 => (intro wq hSw; (try dsimp only at hSw); go_simp; try with_reducible rfl)
            simp only [Act.put, List.setIfInBounds_toArray, List.set_cons_zero, List.set_cons_succ]
            refine take_lit (i := 5) (v := undef) rfl (by kernel_rfl) (by kernel_rfl) (by kernel_rfl) (fun _ _ _ h => h) (Or.inr ⟨by kernel_rfl, rfl⟩) (by assumption) ?_
            simp only [Act.put, List.setIfInBounds_toArray, List.set_cons_zero, List.set_cons_succ]
            refine take_lit (i := 6) (v := undef) rfl (by kernel_rfl) (by kernel_rfl) (by kernel_rfl) (fun _ _ _ h => h) (Or.inr ⟨by kernel_rfl, rfl⟩) (by assumption) ?_
            simp only [Act.put, List.setIfInBounds_toArray, List.set_cons_zero, List.set_cons_succ]
            refine take_lit (i := 7) (v := undef) rfl (by kernel_rfl) (by kernel_rfl) (by kernel_rfl) (fun _ _ _ h => h) (Or.inr ⟨by kernel_rfl, rfl⟩) (by assumption) ?_
            simp only [Act.put, List.setIfInBounds_toArray, List.set_cons_zero, List.set_cons_succ]
            refine take_lit (i := 8) (v := undef) rfl (by kernel_rfl) (by kernel_rfl) (by kernel_rfl) (fun _ _ _ h => h) (Or.inr ⟨by kernel_rfl, rfl⟩) (by assumption) ?_
            simp only [Act.put, List.setIfInBounds_toArray, List.set_cons_zero, List.set_cons_succ]
            refine take_lit (i := 9) (v := undef) rfl (by kernel_rfl) (by kernel_rfl) (by kernel_rfl) (fun _ _ _ h => h) (Or.inr ⟨by kernel_rfl, rfl⟩) (by assumption) ?_
            simp only [Act.put, List.setIfInBounds_toArray, List.set_cons_zero, List.set_cons_succ]
            refine take_lit (i := 10) (v := undef) rfl (by kernel_rfl) (by kernel_rfl) (by kernel_rfl) (fun _ _ _ h => h) (Or.inr ⟨by kernel_rfl, rfl⟩) (by assumption) ?_
            simp only [Act.put, List.setIfInBounds_toArray, List.set_cons_zero, List.set_cons_succ]
            refine take_lit (i := 11) (v := undef) rfl (by kernel_rfl) (by kernel_rfl) (by kernel_rfl) (fun _ _ _ h => h) (Or.inr ⟨by kernel_rfl, rfl⟩) (by assumption) ?_
            simp only [Act.put, List.setIfInBounds_toArray, List.set_cons_zero, List.set_cons_succ]
            refine take_lit (i := 12) (v := undef) rfl (by kernel_rfl) (by kernel_rfl) (by kernel_rfl) (fun _ _ _ h => h) (Or.inr ⟨by kernel_rfl, rfl⟩) (by assumption) ?_
            simp only [Act.put, List.setIfInBounds_toArray, List.set_cons_zero, List.set_cons_succ]
            refine take_lit (i := 13) (v := undef) rfl (by kernel_rfl) (by kernel_rfl) (by kernel_rfl) (fun _ _ _ h => h) (Or.inr ⟨by kernel_rfl, rfl⟩) (by assumption) ?_
            simp only [Act.put, List.setIfInBounds_toArray, List.set_cons_zero, List.set_cons_succ]
            refine take_lit (i := 14) (v := ?vr3x14) rfl (by kernel_rfl) (by kernel_rfl) (by kernel_rfl) (fun _ _ _ h => h) (Or.inl ⟨by rfl, ?hyr3x14⟩) (by assumption) ?restr3x14
            case hyr3x14 => (intro wq hSw; (try dsimp only at hSw); go_simp; try with_reducible rfl)
            simp only [Act.put, List.setIfInBounds_toArray, List.set_cons_zero, List.set_cons_succ]
            refine wpAnyH_done (by kernel_rfl) ?_ _
            have S5 : Hid (Below w.heap.size w V.drew ∧ Box V.drew w.heap.size 37 #[.int .i64 p.sec, .slice (some ⟨sb, so, none⟩) p.nw wc, .slice (some ⟨yb, yo, none⟩) p.ny yc, .slice ba p.nb bc, .int .i64 p.hold] ∧ Box V.drew (w.heap.size + 1) 42 #[.bool f.ok, .slice oa f.no oc, .slice pa f.np pc, .slice (some ⟨fb, fo, none⟩) f.nh hc]) := TD.out.1
            go_wp2_with fail
            go_roundw
            case rel => exact ⟨k + 1, by omega, by go_num, HQ2, S5⟩
            case measure => simp [intOf]; omega
        · have HE : Hid (WtR w p f i x (.returned (.int .i64 0)) wr) := ⟨_, rfl, by rw [HWT.out, HF0.out, any_and _ _ (fun j hj => HQ.out j (by omega))]; rfl, S1.out.1⟩
          have hge : ¬ ((k : Int) < ((p.Y i).nl : Int)) := by omega
          go_wp2_with fail
          go_ret
          exact HE.out

end Go.Proofs.YtlgapgajgpilgaaGreatDoor

namespace Go.Proofs.YtlgapgajgpilgaaGreatDoor
open Go.RowKit Go.Lib

/-- how many of the first numbers are picked -/
def selN (q : Nat → Bool) : Nat → Nat
  | 0 => 0
  | n + 1 => if q n then selN q n + 1 else selN q n
/-- those that are picked, in order -/
def selD (q : Nat → Bool) : Nat → Nat → Int
  | 0 => fun _ => 0
  | n + 1 => if q n then updI (selD q n) (selN q n) (n : Int) else selD q n
theorem selN_yes {q : Nat → Bool} {n : Nat} (h : q n = true) : selN q (n + 1) = selN q n + 1 := by simp [selN, h]
theorem selN_no {q : Nat → Bool} {n : Nat} (h : q n = false) : selN q (n + 1) = selN q n := by simp [selN, h]
theorem selD_yes {q : Nat → Bool} {n : Nat} (h : q n = true) : selD q (n + 1) = updI (selD q n) (selN q n) (n : Int) := by simp [selD, h]
theorem selD_no {q : Nat → Bool} {n : Nat} (h : q n = false) : selD q (n + 1) = selD q n := by simp [selD, h]
theorem selN_le (q : Nat → Bool) : ∀ n, selN q n ≤ n
  | 0 => Nat.le_refl _
  | n + 1 => by
    have := selN_le q n
    cases h : q n with
    | false => rw [selN_no h]; omega
    | true => rw [selN_yes h]; omega
def SelR (w : World) (q : Nat → Bool) (n : Nat) (e : Ending) (w' : World) : Prop :=
  ∃ va vc, e = .returned (.slice va (selN q n) vc) ∧ VOwn w.heap.size 3 1 w' (.slice va (selN q n) vc) (selN q n) (oneF (selD q n)) ∧ Below w.heap.size w w'
theorem way_lie {p : Pl} {y : Wy} (h : wayF p y = true) : (∀ j, j < y.nl → 0 < y.L j 1) ∧ ∀ j, j < y.nf → 0 < y.F j 1 := by
  simp only [wayF, Bool.and_eq_true] at h
  have h1 := h.1.1.1.2
  have h2 := h.1.1.2
  simp only [liesF, Bool.and_eq_true] at h1 h2
  refine ⟨fun j hj => ?_, fun j hj => ?_⟩
  · have h3 := allB_iff.1 h1.1 j hj
    simp only [tuF, Bool.and_eq_true, inB, decide_eq_true_eq] at h3
    omega
  · have h3 := allB_iff.1 h2.1 j hj
    simp only [tuF, Bool.and_eq_true, inB, decide_eq_true_eq] at h3
    omega
set_option maxRecDepth 100000 in
set_option maxHeartbeats 8000000 in
theorem point51 (p : Pl) (f : Fm) (wa ya ba oa pa ha : Option Addr) (wc yc bc oc pc hc : Nat) (x : Nat) (w : World) (hs : p.small) (hnh : f.nh ≤ 1048576) (hny : f.nh = p.ny) (hok : p.Ok) (hx : x < p.nw) (h : PlIn 0 w p wa ya ba) (hh : HsAt 0 w ha f.nh f.Y) :
    Calls Tryz.prog 51 #[.agg #[.int .i64 p.sec, .slice wa p.nw wc, .slice ya p.ny yc, .slice ba p.nb bc, .int .i64 p.hold], .agg #[.bool f.ok, .slice oa f.no oc, .slice pa f.np pc, .slice ha f.nh hc], .int .i64 (x : Int)] w fun e w' => SelR w (fun i => wantsB p f i x) p.ny e w' := by
  have H : Hid (p.small ∧ f.nh ≤ 1048576 ∧ f.nh = p.ny ∧ p.Ok ∧ PlIn 0 w p wa ya ba ∧ HsAt 0 w ha f.nh f.Y) := ⟨hs, hnh, hny, hok, h, hh⟩
  obtain ⟨i0, hi0, hz0, hs0, hb0⟩ := info_parts infoInt
  have S0 : Hid (Below w.heap.size w ((w.alloc (.cells #[.int .i64 p.sec, .slice wa p.nw wc, .slice ya p.ny yc, .slice ba p.nb bc, .int .i64 p.hold] 37)).alloc (.cells #[.bool f.ok, .slice oa f.no oc, .slice pa f.np pc, .slice ha f.nh hc] 42)) ∧ Box ((w.alloc (.cells #[.int .i64 p.sec, .slice wa p.nw wc, .slice ya p.ny yc, .slice ba p.nb bc, .int .i64 p.hold] 37)).alloc (.cells #[.bool f.ok, .slice oa f.no oc, .slice pa f.np pc, .slice ha f.nh hc] 42)) w.heap.size 37 #[.int .i64 p.sec, .slice wa p.nw wc, .slice ya p.ny yc, .slice ba p.nb bc, .int .i64 p.hold] ∧ Box ((w.alloc (.cells #[.int .i64 p.sec, .slice wa p.nw wc, .slice ya p.ny yc, .slice ba p.nb bc, .int .i64 p.hold] 37)).alloc (.cells #[.bool f.ok, .slice oa f.no oc, .slice pa f.np pc, .slice ha f.nh hc] 42)) (w.heap.size + 1) 42 #[.bool f.ok, .slice oa f.no oc, .slice pa f.np pc, .slice ha f.nh hc]) := ⟨bel2 _ _ _, (Box.new _ _ _).alloc _, by have := Box.new (w.alloc (.cells #[.int .i64 p.sec, .slice wa p.nw wc, .slice ya p.ny yc, .slice ba p.nb bc, .int .i64 p.hold] 37)) 42 #[.bool f.ok, .slice oa f.no oc, .slice pa f.np pc, .slice ha f.nh hc]; simpa using this⟩
  have hpy : p.ny ≤ 1048576 := hs.2.1
  clear h hh hs hok hnh hny
  go_enter Tryz.func51, Tryz.ntmps51
  go_wp2_with fail
  generalize ((w.alloc (.cells #[.int .i64 p.sec, .slice wa p.nw wc, .slice ya p.ny yc, .slice ba p.nb bc, .int .i64 p.hold] 37)).alloc (.cells #[.bool f.ok, .slice oa f.no oc, .slice pa f.np pc, .slice ha f.nh hc] 42)) = V0 at S0 ⊢
  go_loopw [7, 12] (fun u c wr => ∃ (k m : Nat) (va : Option Addr) (vc : Nat) (D : Nat → Int), k ≤ p.ny ∧ m ≤ k ∧ c = .int .i64 (k : Int) ∧ u = .slice va m vc ∧ Hid (m = selN (fun i => wantsB p f i x) k ∧ D = selD (fun i => wantsB p f i x) k) ∧ Hid (Below V0.heap.size V0 wr ∧ VOwn V0.heap.size 3 1 wr (.slice va m vc) m (oneF D))) (fun _ c _ => p.ny - (intOf c).toNat)
  case atStart => exact ⟨0, 0, none, 0, fun _ => 0, Nat.zero_le _, Nat.le_refl _, rfl, rfl, ⟨rfl, rfl⟩, Below.refl _ _, VOwn.nil _ _ _ _ _⟩
  case round =>
    obtain ⟨k, m, va, vc, D, hk, hm, rfl, rfl, HD, M⟩ := hrel
    by_cases hlt : k < p.ny
    · have hk0 : (0 : Int) ≤ (k : Int) := by omega
      have hkn : (k : Int) < (p.ny : Int) := by omega
      have S1 : Hid (Below w.heap.size w wr ∧ Box wr w.heap.size 37 #[.int .i64 p.sec, .slice wa p.nw wc, .slice ya p.ny yc, .slice ba p.nb bc, .int .i64 p.hold] ∧ Box wr (w.heap.size + 1) 42 #[.bool f.ok, .slice oa f.no oc, .slice pa f.np pc, .slice ha f.nh hc]) := ⟨S0.out.1.trans (M.out.1.mono S0.out.1.size), S0.out.2.1.mono M.out.1 (Nat.le_refl _), S0.out.2.2.mono M.out.1 (Nat.le_refl _)⟩
      have a0 : wr.cell? ⟨w.heap.size, 0, none⟩ = some (.int .i64 p.sec) := S1.out.2.1.cell 0
      have a1 : wr.cell? ⟨w.heap.size, 1, none⟩ = some (.slice wa p.nw wc) := S1.out.2.1.cell 1
      have a2 : wr.cell? ⟨w.heap.size, 2, none⟩ = some (.slice ya p.ny yc) := S1.out.2.1.cell 2
      have a3 : wr.cell? ⟨w.heap.size, 3, none⟩ = some (.slice ba p.nb bc) := S1.out.2.1.cell 3
      have a4 : wr.cell? ⟨w.heap.size, 4, none⟩ = some (.int .i64 p.hold) := S1.out.2.1.cell 4
      have b0 : wr.cell? ⟨(w.heap.size + 1), 0, none⟩ = some (.bool f.ok) := S1.out.2.2.cell 0
      have b1 : wr.cell? ⟨(w.heap.size + 1), 1, none⟩ = some (.slice oa f.no oc) := S1.out.2.2.cell 1
      have b2 : wr.cell? ⟨(w.heap.size + 1), 2, none⟩ = some (.slice pa f.np pc) := S1.out.2.2.cell 2
      have b3 : wr.cell? ⟨(w.heap.size + 1), 3, none⟩ = some (.slice ha f.nh hc) := S1.out.2.2.cell 3
      go_wp2_with fail
      clear a0 a1 a2 a3 a4 b0 b1 b2 b3
      have HWL : Hid ((∀ j, j < (p.Y k).nl → 0 < (p.Y k).L j 1) ∧ ∀ j, j < (p.Y k).nf → 0 < (p.Y k).F j 1) := way_lie (H.out.2.2.2.1.way k hlt)
      refine (wants87 p f wa ya ba oa pa ha wc yc bc oc pc hc k x wr H.out.1 H.out.2.1 hlt (by rw [H.out.2.2.1]; exact hlt) hx HWL.out.1 HWL.out.2 (H.out.2.2.2.2.1.mono (Nat.le_refl _) S1.out.1 (Nat.le_refl _)) (H.out.2.2.2.2.2.mono (Nat.le_refl _) S1.out.1 (Nat.le_refl _))).mono ?_
      rintro e w3 ⟨r, rfl, hr, hb3⟩
      have M3 : Hid (Below V0.heap.size V0 w3 ∧ VOwn V0.heap.size 3 1 w3 (.slice va m vc) m (oneF D)) := ⟨M.out.1.trans (hb3.mono M.out.1.size), M.out.2.mono (Nat.le_refl _) hb3 (Nat.le_refl _)⟩
      clear hb3 S1 HWL M
      obtain ⟨u, HU⟩ : ∃ u, Hid (wantsB p f k x = u) := ⟨_, rfl⟩
      rw [HU.out] at hr
      cases u with
      | false =>
        have hr0 : ¬ (0 < r) := by simpa using hr
        have HD2 : Hid (m = selN (fun i => wantsB p f i x) (k + 1) ∧ D = selD (fun i => wantsB p f i x) (k + 1)) := ⟨HD.out.1.trans (selN_no (q := (fun i => wantsB p f i x)) HU.out).symm, HD.out.2.trans (selD_no (q := (fun i => wantsB p f i x)) HU.out).symm⟩
        clear hr
        go_wp2_with fail
        go_roundw
        case rel => exact ⟨k + 1, m, va, vc, D, by omega, by omega, by go_num, rfl, HD2, M3⟩
        case measure => simp [intOf]; omega
      | true =>
        have hr0 : 0 < r := by simpa using hr
        clear hr
        have hszr : V0.heap.size ≤ w3.heap.size := M3.out.1.size
        have HD2 : Hid (m + 1 = selN (fun i => wantsB p f i x) (k + 1) ∧ updI D m (k : Int) = selD (fun i => wantsB p f i x) (k + 1)) := ⟨by rw [selN_yes (q := (fun i => wantsB p f i x)) HU.out, HD.out.1], by rw [selD_yes (q := (fun i => wantsB p f i x)) HU.out, HD.out.1, HD.out.2]⟩
        have HW : Hid (VOwn V0.heap.size 3 1 w3 (.slice va m vc) m (oneF (updI D m (k : Int)))) := M3.out.2.congr fun i hi j _ => by simp [oneF, updI, hi]
        have hbx : Box (w3.alloc (.cells #[.int .i64 (k : Int)] 3)) w3.heap.size 3 #[.int .i64 (k : Int)] := Box.new _ _ _
        go_wp2_with (at_builtin; go_must (refine wpList_vapp _ rfl _ _ 22 rfl V0.heap.size 3 i0 _ 1 8 Tryz.underlying22 hi0 hz0 hs0 hb0 rfl (by decide) (.slice va m vc) m (oneF (updI D m (k : Int))) rfl (HW.out.alloc _) (fun _ _ => rfl) w3.heap.size 1 #[.int .i64 (k : Int)] rfl hbx (by simp [oneF, updI]) (by simp only [maxLen]; omega) (by omega) (by simp; omega) (Halt.mk ?_)))
        intro v2 w2 o2 g2
        obtain ⟨va2, vc2, rfl⟩ := o2.val
        have M2 : Hid (Below V0.heap.size V0 w2 ∧ VOwn V0.heap.size 3 1 w2 (.slice va2 (m + 1) vc2) (m + 1) (oneF (updI D m (k : Int)))) := ⟨(M3.out.1.alloc hszr _).grown g2 (by simp; omega) (fun j hj => (HW.out.lt hj).1), o2⟩
        clear o2 g2 HW hbx
        go_wp2_with fail
        go_roundw
        case rel => exact ⟨k + 1, m + 1, va2, vc2, _, by omega, by omega, by go_num, rfl, HD2, M2⟩
        case measure => simp [intOf]; omega
    · obtain rfl : k = p.ny := by omega
      have HF : Hid (SelR w (fun i => wantsB p f i x) p.ny (.returned (.slice va m vc)) wr) := by
        obtain ⟨e1, e2⟩ := HD.out
        refine ⟨va, vc, by rw [e1], ?_, S0.out.1.trans (M.out.1.mono S0.out.1.size)⟩
        rw [← e1, ← e2]
        exact M.out.2.keep S0.out.1.size fun _ _ => rfl
      go_wp2_with fail
      go_ret
      exact HF.out

end Go.Proofs.YtlgapgajgpilgaaGreatDoor

namespace Go.Proofs.YtlgapgajgpilgaaGreatDoor
open Go.RowKit Go.Lib

/-- a way in a state wants a switch -/
def wantsS (p : Pl) (S : Nat → WS) (i x : Nat) : Bool := (heldS (S i) && anyB (fun j => decide ((p.Y i).F j 0 = (x : Int))) (p.Y i).nf) || (anyB (fun j => decide ((p.Y i).L j 0 = (x : Int))) (p.Y i).nl && keepsB p S i (p.W x))
theorem wants_same {p : Pl} {f : Fm} (h : frameB p f = true) {i : Nat} (hi : i < p.ny) (x : Nat) : wantsS p (stS p f) i x = wantsB p f i x := by
  rw [wantsS, wantsB, keeps_holds h hi, held_st (frame_st h hi).2]
  cases c : decide ((f.Y i).st ≠ 0) with
  | false => simp [holdsB, c]
  | true => simp
set_option maxRecDepth 100000 in
set_option maxHeartbeats 16000000 in
theorem wanting53 (p : Pl) (wb yb bb : Nat) (lo rr : Nat → Nat) (oa : Option Addr) (no oc : Nat) (pa : Option Addr) (np pc : Nat) (ia : Option Addr) (ic : Nat) (S : Nat → WS) (N : Nat → Nat) (x : Nat) (w : World) (hx : x < p.nw) (hs : p.small) (hP : PlOwn 0 w p wb yb bb lo rr) (h : WlAt w ia p.ny N S) :
    Calls Tryz.prog 53 #[.agg #[.int .i64 p.sec, .slice (some ⟨wb, 0, none⟩) p.nw p.nw, .slice (some ⟨yb, 0, none⟩) p.ny p.ny, .slice (some ⟨bb, 0, none⟩) p.nb p.nb, .int .i64 p.hold, .slice oa no oc, .slice pa np pc, .slice ia p.ny ic], .int .i64 (x : Int)] w fun e w' => SelR w (fun i => wantsS p S i x) p.ny e w' := by
  have H : Hid (p.small ∧ PlOwn 0 w p wb yb bb lo rr ∧ WlAt w ia p.ny N S) := ⟨hs, hP, h⟩
  obtain ⟨i0, hi0, hz0, hs0, hb0⟩ := info_parts infoInt
  have hny := hs.2.1
  have hnw : p.nw ≤ 1048576 := hs.1
  obtain ⟨sb2, so2, hsa, _, hsl, hcs⟩ := (hP.in (Nat.le_refl 0)).sw (by omega)
  cases hsa
  have HSW : Hid (wb < w.heap.size ∧ w.cell? ⟨wb, x, none⟩ = some (.int .i64 (p.W x))) := ⟨hsl, by have := hcs x hx 0 (by omega); rwa [Nat.mul_one, Nat.zero_add] at this⟩
  have HPI : Hid (PlIn 0 w p (some ⟨wb, 0, none⟩) (some ⟨yb, 0, none⟩) (some ⟨bb, 0, none⟩)) := hP.in (Nat.le_refl 0)
  clear hs hP h hcs
  have hx0 : (0 : Int) ≤ (x : Int) := by omega
  have hxn : (x : Int) < (p.nw : Int) := by omega
  have S0 : Hid (Below w.heap.size w ((w.alloc (.cells #[.int .i64 p.sec, .slice (some ⟨wb, 0, none⟩) p.nw p.nw, .slice (some ⟨yb, 0, none⟩) p.ny p.ny, .slice (some ⟨bb, 0, none⟩) p.nb p.nb, .int .i64 p.hold, .slice oa no oc, .slice pa np pc, .slice ia p.ny ic] 73)).alloc (.cells #[.int .i64 (x : Int)] 3)) ∧ Box ((w.alloc (.cells #[.int .i64 p.sec, .slice (some ⟨wb, 0, none⟩) p.nw p.nw, .slice (some ⟨yb, 0, none⟩) p.ny p.ny, .slice (some ⟨bb, 0, none⟩) p.nb p.nb, .int .i64 p.hold, .slice oa no oc, .slice pa np pc, .slice ia p.ny ic] 73)).alloc (.cells #[.int .i64 (x : Int)] 3)) w.heap.size 73 #[.int .i64 p.sec, .slice (some ⟨wb, 0, none⟩) p.nw p.nw, .slice (some ⟨yb, 0, none⟩) p.ny p.ny, .slice (some ⟨bb, 0, none⟩) p.nb p.nb, .int .i64 p.hold, .slice oa no oc, .slice pa np pc, .slice ia p.ny ic] ∧ Box ((w.alloc (.cells #[.int .i64 p.sec, .slice (some ⟨wb, 0, none⟩) p.nw p.nw, .slice (some ⟨yb, 0, none⟩) p.ny p.ny, .slice (some ⟨bb, 0, none⟩) p.nb p.nb, .int .i64 p.hold, .slice oa no oc, .slice pa np pc, .slice ia p.ny ic] 73)).alloc (.cells #[.int .i64 (x : Int)] 3)) (w.heap.size + 1) 3 #[.int .i64 (x : Int)]) := ⟨bel2 _ _ _, (Box.new _ _ _).alloc _, by have := Box.new (w.alloc (.cells #[.int .i64 p.sec, .slice (some ⟨wb, 0, none⟩) p.nw p.nw, .slice (some ⟨yb, 0, none⟩) p.ny p.ny, .slice (some ⟨bb, 0, none⟩) p.nb p.nb, .int .i64 p.hold, .slice oa no oc, .slice pa np pc, .slice ia p.ny ic] 73)) 3 #[.int .i64 (x : Int)]; simpa using this⟩
  go_enter Tryz.func53, Tryz.ntmps53
  go_wp2_with fail
  generalize ((w.alloc (.cells #[.int .i64 p.sec, .slice (some ⟨wb, 0, none⟩) p.nw p.nw, .slice (some ⟨yb, 0, none⟩) p.ny p.ny, .slice (some ⟨bb, 0, none⟩) p.nb p.nb, .int .i64 p.hold, .slice oa no oc, .slice pa np pc, .slice ia p.ny ic] 73)).alloc (.cells #[.int .i64 (x : Int)] 3)) = V0 at S0 ⊢
  have HST : Hid (∀ W, Below V0.heap.size V0 W → Below w.heap.size w W ∧ Box W w.heap.size 73 #[.int .i64 p.sec, .slice (some ⟨wb, 0, none⟩) p.nw p.nw, .slice (some ⟨yb, 0, none⟩) p.ny p.ny, .slice (some ⟨bb, 0, none⟩) p.nb p.nb, .int .i64 p.hold, .slice oa no oc, .slice pa np pc, .slice ia p.ny ic] ∧ Box W (w.heap.size + 1) 3 #[.int .i64 (x : Int)]) := fun W hB => ⟨S0.out.1.trans (hB.mono S0.out.1.size), S0.out.2.1.mono hB (Nat.le_refl _), S0.out.2.2.mono hB (Nat.le_refl _)⟩
  go_loopw [5, 15] (fun u c wr => ∃ (k m : Nat) (va : Option Addr) (vc : Nat) (D : Nat → Int), k ≤ p.ny ∧ m ≤ k ∧ c = .int .i64 (k : Int) ∧ u = .slice va m vc ∧ Hid (m = selN (fun i => wantsS p S i x) k ∧ D = selD (fun i => wantsS p S i x) k) ∧ Hid (Below V0.heap.size V0 wr ∧ VOwn V0.heap.size 3 1 wr (.slice va m vc) m (oneF D))) (fun _ c _ => p.ny - (intOf c).toNat)
  case atStart => exact ⟨0, 0, none, 0, fun _ => 0, Nat.zero_le _, Nat.le_refl _, rfl, rfl, ⟨rfl, rfl⟩, Below.refl _ _, VOwn.nil _ _ _ _ _⟩
  case round =>
    obtain ⟨k, m, va, vc, D, hk, hm, rfl, rfl, HD, M⟩ := hrel
    by_cases hlt : k < p.ny
    · have hk0 : (0 : Int) ≤ (k : Int) := by omega
      have hkn : (k : Int) < (p.ny : Int) := by omega
      have S1 := HST.out wr M.out.1
      obtain ⟨yb2, yo2, hya, _, hyl, hcy⟩ := (HPI.out.mono (Nat.le_refl _) S1.1 (Nat.le_refl _)).wy (by omega)
      cases hya
      obtain ⟨sa, sc, la, lc, fa, fc, oo, oc2, ma, mc, x0, x1, x2, x3, x4, hy⟩ := hcy k hlt
      rw [Nat.zero_add] at x0 x1 x2 x3 x4
      have HLF : Hid (VsAt 2 0 wr la (p.Y k).nl (intF (p.Y k).L) ∧ VsAt 2 0 wr fa (p.Y k).nf (intF (p.Y k).F)) := ⟨hy.l, hy.f⟩
      have hsm := H.out.1.2.2.1 k hlt
      have hnl : (p.Y k).nl ≤ 1048576 := by have := hsm.2.1; omega
      have hnf : (p.Y k).nf ≤ 1048576 := by have := hsm.2.2.1; omega
      clear hcy hy hsm
      have T1 : Hid ((Below V0.heap.size V0 (wr.alloc (.cells #[.slice sa (p.Y k).ns sc, .slice la (p.Y k).nl lc, .slice fa (p.Y k).nf fc, .slice oo (p.Y k).no oc2, .slice ma (p.Y k).nm mc] 96)) ∧ VOwn V0.heap.size 3 1 (wr.alloc (.cells #[.slice sa (p.Y k).ns sc, .slice la (p.Y k).nl lc, .slice fa (p.Y k).nf fc, .slice oo (p.Y k).no oc2, .slice ma (p.Y k).nm mc] 96)) (.slice va m vc) m (oneF D)) ∧ Box (wr.alloc (.cells #[.slice sa (p.Y k).ns sc, .slice la (p.Y k).nl lc, .slice fa (p.Y k).nf fc, .slice oo (p.Y k).no oc2, .slice ma (p.Y k).nm mc] 96)) wr.heap.size 96 #[.slice sa (p.Y k).ns sc, .slice la (p.Y k).nl lc, .slice fa (p.Y k).nf fc, .slice oo (p.Y k).no oc2, .slice ma (p.Y k).nm mc]) := ⟨⟨M.out.1.alloc M.out.1.size _, M.out.2.alloc _⟩, Box.new _ _ _⟩
      have HLF1 : Hid (VsAt 2 0 (wr.alloc (.cells #[.slice sa (p.Y k).ns sc, .slice la (p.Y k).nl lc, .slice fa (p.Y k).nf fc, .slice oo (p.Y k).no oc2, .slice ma (p.Y k).nm mc] 96)) la (p.Y k).nl (intF (p.Y k).L) ∧ VsAt 2 0 (wr.alloc (.cells #[.slice sa (p.Y k).ns sc, .slice la (p.Y k).nl lc, .slice fa (p.Y k).nf fc, .slice oo (p.Y k).no oc2, .slice ma (p.Y k).nm mc] 96)) fa (p.Y k).nf (intF (p.Y k).F)) := ⟨HLF.out.1.mono (Nat.le_refl _) (bel1 _ _) (Nat.le_refl _), HLF.out.2.mono (Nat.le_refl _) (bel1 _ _) (Nat.le_refl _)⟩
      clear HLF
      have d0 : wr.cell? ⟨w.heap.size, 0, none⟩ = some (.int .i64 p.sec) := S1.2.1.cell 0
      have d1 : wr.cell? ⟨w.heap.size, 1, none⟩ = some (.slice (some ⟨wb, 0, none⟩) p.nw p.nw) := S1.2.1.cell 1
      have d2 : wr.cell? ⟨w.heap.size, 2, none⟩ = some (.slice (some ⟨yb, 0, none⟩) p.ny p.ny) := S1.2.1.cell 2
      have d3 : wr.cell? ⟨w.heap.size, 3, none⟩ = some (.slice (some ⟨bb, 0, none⟩) p.nb p.nb) := S1.2.1.cell 3
      have d4 : wr.cell? ⟨w.heap.size, 4, none⟩ = some (.int .i64 p.hold) := S1.2.1.cell 4
      have d5 : wr.cell? ⟨w.heap.size, 5, none⟩ = some (.slice oa no oc) := S1.2.1.cell 5
      have d6 : wr.cell? ⟨w.heap.size, 6, none⟩ = some (.slice pa np pc) := S1.2.1.cell 6
      have d7 : wr.cell? ⟨w.heap.size, 7, none⟩ = some (.slice ia p.ny ic) := S1.2.1.cell 7
      have hdl : w.heap.size < wr.heap.size := S1.2.1.lt
      clear S1
      go_wp2_with fail
      clear x0 x1 x2 x3 x4 hdl d0 d1 d2 d3 d4 d5 d6 d7 M
      generalize (wr.alloc (.cells #[.slice sa (p.Y k).ns sc, .slice la (p.Y k).nl lc, .slice fa (p.Y k).nf fc, .slice oo (p.Y k).no oc2, .slice ma (p.Y k).nm mc] 96)) = V1 at T1 HLF1 ⊢
      generalize wr.heap.size = yq at T1 ⊢
      have HV1 := HST.out V1 T1.out.1.1
      refine (isHeld114 p wb yb bb oa no oc pa np pc ia ic S N k V1 hlt hny (H.out.2.2.mono HV1.1 (Nat.le_refl _))).mono ?_
      clear HV1
      rintro e w3 ⟨he, hb3⟩
      have T3 : Hid ((Below V0.heap.size V0 w3 ∧ VOwn V0.heap.size 3 1 w3 (.slice va m vc) m (oneF D)) ∧ Box w3 yq 96 #[.slice sa (p.Y k).ns sc, .slice la (p.Y k).nl lc, .slice fa (p.Y k).nf fc, .slice oo (p.Y k).no oc2, .slice ma (p.Y k).nm mc]) := ⟨⟨T1.out.1.1.trans (hb3.mono T1.out.1.1.size), T1.out.1.2.mono (Nat.le_refl _) hb3 (Nat.le_refl _)⟩, T1.out.2.mono hb3 (Nat.le_refl _)⟩
      have HLF3 : Hid (VsAt 2 0 w3 la (p.Y k).nl (intF (p.Y k).L) ∧ VsAt 2 0 w3 fa (p.Y k).nf (intF (p.Y k).F)) := ⟨HLF1.out.1.mono (Nat.le_refl _) hb3 (Nat.le_refl _), HLF1.out.2.mono (Nat.le_refl _) hb3 (Nat.le_refl _)⟩
      clear hb3 T1 HLF1
      obtain ⟨uh, HH⟩ : ∃ u, Hid (heldS (S k) = u) := ⟨_, rfl⟩
      rw [HH.out] at he
      subst he
      cases uh with
      | false =>
        have HBES : Hid ((heldS (S k) && anyB (fun j => decide ((p.Y k).F j 0 = (x : Int))) (p.Y k).nf) = false) := by rw [Hid, HH.out]; rfl
        have HL : Hid (VsAt 2 0 w3 la (p.Y k).nl (intF (p.Y k).L)) := HLF3.out.1
        clear HLF3
        go_wp2_with fail
        have TV : Hid ((Below V0.heap.size V0 w3 ∧ VOwn V0.heap.size 3 1 w3 (.slice va m vc) m (oneF D)) ∧ Box w3 yq 96 #[.slice sa (p.Y k).ns sc, .slice la (p.Y k).nl lc, .slice fa (p.Y k).nf fc, .slice oo (p.Y k).no oc2, .slice ma (p.Y k).nm mc]) := T3
        have BD : Hid (Below w3.heap.size w3 w3.drew) := (Below.refl _ _).drew
        have TD : Hid ((Below V0.heap.size V0 w3.drew ∧ VOwn V0.heap.size 3 1 w3.drew (.slice va m vc) m (oneF D)) ∧ Box w3.drew yq 96 #[.slice sa (p.Y k).ns sc, .slice la (p.Y k).nl lc, .slice fa (p.Y k).nf fc, .slice oo (p.Y k).no oc2, .slice ma (p.Y k).nm mc]) := ⟨⟨TV.out.1.1.drew, TV.out.1.2.keep (Nat.le_refl _) fun _ _ => rfl⟩, TV.out.2.drew⟩
        clear T3
        obtain ⟨ua, HA⟩ : ∃ u, Hid (anyB (fun j => decide ((p.Y k).L j 0 = (x : Int))) (p.Y k).nl = u) := ⟨_, rfl⟩
        obtain ⟨uk, HKB⟩ : ∃ u, Hid (keepsB p S k (p.W x) = u) := ⟨_, rfl⟩
        have HUU : Hid (wantsS p S k x = (ua && uk)) := by rw [Hid, wantsS, HBES.out, HA.out, HKB.out, Bool.false_or]
        cases ua with
        | false =>
          have HU : Hid (wantsS p S k x = false) := HUU.out
          refine wp_region_held_drew (S := (fun wx : World => wx.cell? ⟨yq, 1, none⟩ = some (.slice la (p.Y k).nl lc) ∧ wx.cell? ⟨w.heap.size, 0, none⟩ = some (.int .i64 p.sec) ∧ wx.cell? ⟨w.heap.size, 1, none⟩ = some (.slice (some ⟨wb, 0, none⟩) p.nw p.nw) ∧ wx.cell? ⟨w.heap.size, 2, none⟩ = some (.slice (some ⟨yb, 0, none⟩) p.ny p.ny) ∧ wx.cell? ⟨w.heap.size, 3, none⟩ = some (.slice (some ⟨bb, 0, none⟩) p.nb p.nb) ∧ wx.cell? ⟨w.heap.size, 4, none⟩ = some (.int .i64 p.hold) ∧ wx.cell? ⟨w.heap.size, 5, none⟩ = some (.slice oa no oc) ∧ wx.cell? ⟨w.heap.size, 6, none⟩ = some (.slice pa np pc) ∧ wx.cell? ⟨w.heap.size, 7, none⟩ = some (.slice ia p.ny ic) ∧ wx.cell? ⟨(w.heap.size + 1), 0, none⟩ = some (.int .i64 (x : Int)) ∧ wx.cell? ⟨wb, x, none⟩ = some (.int .i64 (p.W x)))) (by kernel_rfl) ?_ (fun hHeld => ?_)
          · exact ⟨TV.out.2.cell 1, (HST.out _ TV.out.1.1).2.1.cell 0, (HST.out _ TV.out.1.1).2.1.cell 1, (HST.out _ TV.out.1.1).2.1.cell 2, (HST.out _ TV.out.1.1).2.1.cell 3, (HST.out _ TV.out.1.1).2.1.cell 4, (HST.out _ TV.out.1.1).2.1.cell 5, (HST.out _ TV.out.1.1).2.1.cell 6, (HST.out _ TV.out.1.1).2.1.cell 7, (HST.out _ TV.out.1.1).2.2.cell 0, (HST.out _ TV.out.1.1).1.cell (p := ⟨wb, x, none⟩) HSW.out.1 |>.trans HSW.out.2⟩
          refine take_lit (i := 0) (v := ?vr1x0) rfl (by kernel_rfl) (by kernel_rfl) (by kernel_rfl) (fun _ _ _ h => h) (Or.inl ⟨by rfl, ?hyr1x0⟩) (by assumption) ?restr1x0
          case hyr1x0 => (intro wq hSw; (try dsimp only at hSw); go_simp; try with_reducible rfl)
          simp only [Act.put, List.setIfInBounds_toArray, List.set_cons_zero, List.set_cons_succ]
          refine take_lit (i := 1) (v := ?vr1x1) rfl (by kernel_rfl) (by kernel_rfl) (by kernel_rfl) (fun _ _ _ h => h) (Or.inl ⟨by rfl, ?hyr1x1⟩) (by assumption) ?restr1x1
          case hyr1x1 => (intro wq hSw; (try dsimp only at hSw); go_simp; try with_reducible rfl)
          simp only [Act.put, List.setIfInBounds_toArray, List.set_cons_zero, List.set_cons_succ]
          refine take_lit (i := 2) (v := ?vr1x2) rfl (by kernel_rfl) (by kernel_rfl) (by kernel_rfl) (fun _ _ _ h => h) (Or.inl ⟨by rfl, ?hyr1x2⟩) (by assumption) ?restr1x2
          case hyr1x2 => (intro wq hSw; (try dsimp only at hSw); go_simp; try with_reducible rfl)
          simp only [Act.put, List.setIfInBounds_toArray, List.set_cons_zero, List.set_cons_succ]
          refine take_lit (i := 3) (v := ?vr1x3) rfl (by kernel_rfl) (by kernel_rfl) (by kernel_rfl) (fun _ _ _ h => h) (Or.inl ⟨by rfl, ?hyr1x3⟩) (by assumption) ?restr1x3
          case hyr1x3 => (intro wq hSw; (try dsimp only at hSw); go_simp; try with_reducible rfl)
          simp only [Act.put, List.setIfInBounds_toArray, List.set_cons_zero, List.set_cons_succ]
          refine take_lit (i := 4) (v := ?vr1x4) rfl (by kernel_rfl) (by kernel_rfl) (by kernel_rfl) (fun _ _ _ h => h) (Or.inl ⟨by rfl, ?hyr1x4⟩) (by assumption) ?restr1x4
          case hyr1x4 => (intro wq hSw; (try dsimp only at hSw); go_simp; try with_reducible rfl)
          simp only [Act.put, List.setIfInBounds_toArray, List.set_cons_zero, List.set_cons_succ]
          refine ready_lit (i := 5) (by kernel_rfl) rfl (fun K hK => ?_)
          go_simp
          refine (contains90 la (p.Y k).nl lc (p.Y k).L (w.heap.size + 1) (x : Int) _ hnl (HL.out.mono (Nat.le_refl _) BD.out (Nat.le_refl _)) (HST.out _ TD.out.1.1).2.2.lt ((HST.out _ TD.out.1.1).2.2.cell 0)).mono ?_
          rintro e w5 ⟨he, hb5⟩
          have T5 : Hid ((Below V0.heap.size V0 w5 ∧ VOwn V0.heap.size 3 1 w5 (.slice va m vc) m (oneF D)) ∧ Box w5 yq 96 #[.slice sa (p.Y k).ns sc, .slice la (p.Y k).nl lc, .slice fa (p.Y k).nf fc, .slice oo (p.Y k).no oc2, .slice ma (p.Y k).nm mc]) := ⟨⟨TD.out.1.1.trans (hb5.mono TD.out.1.1.size), TD.out.1.2.mono (Nat.le_refl _) hb5 (Nat.le_refl _)⟩, TD.out.2.mono hb5 (Nat.le_refl _)⟩
          clear hb5
          rw [HA.out] at he
          subst he
          go_wp2_with fail
          refine hK.out _ _ ?_ (fun hHeld5 => ?_)
          · exact ⟨T5.out.2.cell 1, (HST.out _ T5.out.1.1).2.1.cell 0, (HST.out _ T5.out.1.1).2.1.cell 1, (HST.out _ T5.out.1.1).2.1.cell 2, (HST.out _ T5.out.1.1).2.1.cell 3, (HST.out _ T5.out.1.1).2.1.cell 4, (HST.out _ T5.out.1.1).2.1.cell 5, (HST.out _ T5.out.1.1).2.1.cell 6, (HST.out _ T5.out.1.1).2.1.cell 7, (HST.out _ T5.out.1.1).2.2.cell 0, (HST.out _ T5.out.1.1).1.cell (p := ⟨wb, x, none⟩) HSW.out.1 |>.trans HSW.out.2⟩
          clear hK K
          refine take_lit (i := 6) (v := ?vr1x6) rfl (by kernel_rfl) (by kernel_rfl) (by kernel_rfl) (fun _ _ _ h => h) (Or.inl ⟨by rfl, ?hyr1x6⟩) (by assumption) ?restr1x6
          case hyr1x6 => (intro wq hSw; (try dsimp only at hSw); go_simp; try with_reducible rfl)
          simp only [Act.put, List.setIfInBounds_toArray, List.set_cons_zero, List.set_cons_succ]
          refine take_lit (i := 7) (v := undef) rfl (by kernel_rfl) (by kernel_rfl) (by kernel_rfl) (fun _ _ _ h => h) (Or.inr ⟨by kernel_rfl, rfl⟩) (by assumption) ?_
          simp only [Act.put, List.setIfInBounds_toArray, List.set_cons_zero, List.set_cons_succ]
          refine take_lit (i := 8) (v := undef) rfl (by kernel_rfl) (by kernel_rfl) (by kernel_rfl) (fun _ _ _ h => h) (Or.inr ⟨by kernel_rfl, rfl⟩) (by assumption) ?_
          simp only [Act.put, List.setIfInBounds_toArray, List.set_cons_zero, List.set_cons_succ]
          refine take_lit (i := 9) (v := undef) rfl (by kernel_rfl) (by kernel_rfl) (by kernel_rfl) (fun _ _ _ h => h) (Or.inr ⟨by kernel_rfl, rfl⟩) (by assumption) ?_
          simp only [Act.put, List.setIfInBounds_toArray, List.set_cons_zero, List.set_cons_succ]
          refine take_lit (i := 10) (v := undef) rfl (by kernel_rfl) (by kernel_rfl) (by kernel_rfl) (fun _ _ _ h => h) (Or.inr ⟨by kernel_rfl, rfl⟩) (by assumption) ?_
          simp only [Act.put, List.setIfInBounds_toArray, List.set_cons_zero, List.set_cons_succ]
          refine take_lit (i := 11) (v := undef) rfl (by kernel_rfl) (by kernel_rfl) (by kernel_rfl) (fun _ _ _ h => h) (Or.inr ⟨by kernel_rfl, rfl⟩) (by assumption) ?_
          simp only [Act.put, List.setIfInBounds_toArray, List.set_cons_zero, List.set_cons_succ]
          refine take_lit (i := 12) (v := undef) rfl (by kernel_rfl) (by kernel_rfl) (by kernel_rfl) (fun _ _ _ h => h) (Or.inr ⟨by kernel_rfl, rfl⟩) (by assumption) ?_
          simp only [Act.put, List.setIfInBounds_toArray, List.set_cons_zero, List.set_cons_succ]
          refine take_lit (i := 13) (v := undef) rfl (by kernel_rfl) (by kernel_rfl) (by kernel_rfl) (fun _ _ _ h => h) (Or.inr ⟨by kernel_rfl, rfl⟩) (by assumption) ?_
          simp only [Act.put, List.setIfInBounds_toArray, List.set_cons_zero, List.set_cons_succ]
          refine take_lit (i := 14) (v := undef) rfl (by kernel_rfl) (by kernel_rfl) (by kernel_rfl) (fun _ _ _ h => h) (Or.inr ⟨by kernel_rfl, rfl⟩) (by assumption) ?_
          simp only [Act.put, List.setIfInBounds_toArray, List.set_cons_zero, List.set_cons_succ]
          refine take_lit (i := 15) (v := undef) rfl (by kernel_rfl) (by kernel_rfl) (by kernel_rfl) (fun _ _ _ h => h) (Or.inr ⟨by kernel_rfl, rfl⟩) (by assumption) ?_
          simp only [Act.put, List.setIfInBounds_toArray, List.set_cons_zero, List.set_cons_succ]
          refine take_lit (i := 16) (v := ?vr1x16) rfl (by kernel_rfl) (by kernel_rfl) (by kernel_rfl) (fun _ _ _ h => h) (Or.inl ⟨by rfl, ?hyr1x16⟩) (by assumption) ?restr1x16
          case hyr1x16 => (intro wq hSw; (try dsimp only at hSw); go_simp; try with_reducible rfl)
          simp only [Act.put, List.setIfInBounds_toArray, List.set_cons_zero, List.set_cons_succ]
          refine take_lit (i := 17) (v := ?vr1x17) rfl (by kernel_rfl) (by kernel_rfl) (by kernel_rfl) (fun _ _ _ h => h) (Or.inl ⟨by rfl, ?hyr1x17⟩) (by assumption) ?restr1x17
          case hyr1x17 => (intro wq hSw; (try dsimp only at hSw); go_simp; try with_reducible rfl)
          simp only [Act.put, List.setIfInBounds_toArray, List.set_cons_zero, List.set_cons_succ]
          refine wpAnyH_done (by kernel_rfl) ?_ _
          have HD2 : Hid (m = selN (fun i => wantsS p S i x) (k + 1) ∧ D = selD (fun i => wantsS p S i x) (k + 1)) := ⟨HD.out.1.trans (selN_no (q := (fun i => wantsS p S i x)) HU.out).symm, HD.out.2.trans (selD_no (q := (fun i => wantsS p S i x)) HU.out).symm⟩
          have M3 := T5.out.1
          go_wp2_with fail
          go_roundw
          case rel => exact ⟨k + 1, m, va, vc, D, by omega, by omega, by go_num, rfl, HD2, M3⟩
          case measure => simp [intOf]; omega
        | true =>
          cases uk with
          | false =>
            have HU : Hid (wantsS p S k x = false) := HUU.out
            refine wp_region_held_drew (S := (fun wx : World => wx.cell? ⟨yq, 1, none⟩ = some (.slice la (p.Y k).nl lc) ∧ wx.cell? ⟨w.heap.size, 0, none⟩ = some (.int .i64 p.sec) ∧ wx.cell? ⟨w.heap.size, 1, none⟩ = some (.slice (some ⟨wb, 0, none⟩) p.nw p.nw) ∧ wx.cell? ⟨w.heap.size, 2, none⟩ = some (.slice (some ⟨yb, 0, none⟩) p.ny p.ny) ∧ wx.cell? ⟨w.heap.size, 3, none⟩ = some (.slice (some ⟨bb, 0, none⟩) p.nb p.nb) ∧ wx.cell? ⟨w.heap.size, 4, none⟩ = some (.int .i64 p.hold) ∧ wx.cell? ⟨w.heap.size, 5, none⟩ = some (.slice oa no oc) ∧ wx.cell? ⟨w.heap.size, 6, none⟩ = some (.slice pa np pc) ∧ wx.cell? ⟨w.heap.size, 7, none⟩ = some (.slice ia p.ny ic) ∧ wx.cell? ⟨(w.heap.size + 1), 0, none⟩ = some (.int .i64 (x : Int)) ∧ wx.cell? ⟨wb, x, none⟩ = some (.int .i64 (p.W x)))) (by kernel_rfl) ?_ (fun hHeld => ?_)
            · exact ⟨TV.out.2.cell 1, (HST.out _ TV.out.1.1).2.1.cell 0, (HST.out _ TV.out.1.1).2.1.cell 1, (HST.out _ TV.out.1.1).2.1.cell 2, (HST.out _ TV.out.1.1).2.1.cell 3, (HST.out _ TV.out.1.1).2.1.cell 4, (HST.out _ TV.out.1.1).2.1.cell 5, (HST.out _ TV.out.1.1).2.1.cell 6, (HST.out _ TV.out.1.1).2.1.cell 7, (HST.out _ TV.out.1.1).2.2.cell 0, (HST.out _ TV.out.1.1).1.cell (p := ⟨wb, x, none⟩) HSW.out.1 |>.trans HSW.out.2⟩
            refine take_lit (i := 0) (v := ?vr2x0) rfl (by kernel_rfl) (by kernel_rfl) (by kernel_rfl) (fun _ _ _ h => h) (Or.inl ⟨by rfl, ?hyr2x0⟩) (by assumption) ?restr2x0
            case hyr2x0 => (intro wq hSw; (try dsimp only at hSw); go_simp; try with_reducible rfl)
            simp only [Act.put, List.setIfInBounds_toArray, List.set_cons_zero, List.set_cons_succ]
            refine take_lit (i := 1) (v := ?vr2x1) rfl (by kernel_rfl) (by kernel_rfl) (by kernel_rfl) (fun _ _ _ h => h) (Or.inl ⟨by rfl, ?hyr2x1⟩) (by assumption) ?restr2x1
            case hyr2x1 => (intro wq hSw; (try dsimp only at hSw); go_simp; try with_reducible rfl)
            simp only [Act.put, List.setIfInBounds_toArray, List.set_cons_zero, List.set_cons_succ]
            refine take_lit (i := 2) (v := ?vr2x2) rfl (by kernel_rfl) (by kernel_rfl) (by kernel_rfl) (fun _ _ _ h => h) (Or.inl ⟨by rfl, ?hyr2x2⟩) (by assumption) ?restr2x2
            case hyr2x2 => (intro wq hSw; (try dsimp only at hSw); go_simp; try with_reducible rfl)
            simp only [Act.put, List.setIfInBounds_toArray, List.set_cons_zero, List.set_cons_succ]
            refine take_lit (i := 3) (v := ?vr2x3) rfl (by kernel_rfl) (by kernel_rfl) (by kernel_rfl) (fun _ _ _ h => h) (Or.inl ⟨by rfl, ?hyr2x3⟩) (by assumption) ?restr2x3
            case hyr2x3 => (intro wq hSw; (try dsimp only at hSw); go_simp; try with_reducible rfl)
            simp only [Act.put, List.setIfInBounds_toArray, List.set_cons_zero, List.set_cons_succ]
            refine take_lit (i := 4) (v := ?vr2x4) rfl (by kernel_rfl) (by kernel_rfl) (by kernel_rfl) (fun _ _ _ h => h) (Or.inl ⟨by rfl, ?hyr2x4⟩) (by assumption) ?restr2x4
            case hyr2x4 => (intro wq hSw; (try dsimp only at hSw); go_simp; try with_reducible rfl)
            simp only [Act.put, List.setIfInBounds_toArray, List.set_cons_zero, List.set_cons_succ]
            refine ready_lit (i := 5) (by kernel_rfl) rfl (fun K hK => ?_)
            go_simp
            refine (contains90 la (p.Y k).nl lc (p.Y k).L (w.heap.size + 1) (x : Int) _ hnl (HL.out.mono (Nat.le_refl _) BD.out (Nat.le_refl _)) (HST.out _ TD.out.1.1).2.2.lt ((HST.out _ TD.out.1.1).2.2.cell 0)).mono ?_
            rintro e w5 ⟨he, hb5⟩
            have T5 : Hid ((Below V0.heap.size V0 w5 ∧ VOwn V0.heap.size 3 1 w5 (.slice va m vc) m (oneF D)) ∧ Box w5 yq 96 #[.slice sa (p.Y k).ns sc, .slice la (p.Y k).nl lc, .slice fa (p.Y k).nf fc, .slice oo (p.Y k).no oc2, .slice ma (p.Y k).nm mc]) := ⟨⟨TD.out.1.1.trans (hb5.mono TD.out.1.1.size), TD.out.1.2.mono (Nat.le_refl _) hb5 (Nat.le_refl _)⟩, TD.out.2.mono hb5 (Nat.le_refl _)⟩
            clear hb5
            rw [HA.out] at he
            subst he
            go_wp2_with fail
            refine hK.out _ _ ?_ (fun hHeld5 => ?_)
            · exact ⟨T5.out.2.cell 1, (HST.out _ T5.out.1.1).2.1.cell 0, (HST.out _ T5.out.1.1).2.1.cell 1, (HST.out _ T5.out.1.1).2.1.cell 2, (HST.out _ T5.out.1.1).2.1.cell 3, (HST.out _ T5.out.1.1).2.1.cell 4, (HST.out _ T5.out.1.1).2.1.cell 5, (HST.out _ T5.out.1.1).2.1.cell 6, (HST.out _ T5.out.1.1).2.1.cell 7, (HST.out _ T5.out.1.1).2.2.cell 0, (HST.out _ T5.out.1.1).1.cell (p := ⟨wb, x, none⟩) HSW.out.1 |>.trans HSW.out.2⟩
            clear hK K
            refine take_lit (i := 6) (v := ?vr2x6) rfl (by kernel_rfl) (by kernel_rfl) (by kernel_rfl) (fun _ _ _ h => h) (Or.inl ⟨by rfl, ?hyr2x6⟩) (by assumption) ?restr2x6
            case hyr2x6 => (intro wq hSw; (try dsimp only at hSw); go_simp; try with_reducible rfl)
            simp only [Act.put, List.setIfInBounds_toArray, List.set_cons_zero, List.set_cons_succ]
            refine take_lit (i := 7) (v := ?vr2x7) rfl (by kernel_rfl) (by kernel_rfl) (by kernel_rfl) (fun _ _ _ h => h) (Or.inl ⟨by rfl, ?hyr2x7⟩) (by assumption) ?restr2x7
            case hyr2x7 => (intro wq hSw; (try dsimp only at hSw); go_simp; try with_reducible rfl)
            simp only [Act.put, List.setIfInBounds_toArray, List.set_cons_zero, List.set_cons_succ]
            refine take_lit (i := 8) (v := ?vr2x8) rfl (by kernel_rfl) (by kernel_rfl) (by kernel_rfl) (fun _ _ _ h => h) (Or.inl ⟨by rfl, ?hyr2x8⟩) (by assumption) ?restr2x8
            case hyr2x8 => (intro wq hSw; (try dsimp only at hSw); go_simp; try with_reducible rfl)
            simp only [Act.put, List.setIfInBounds_toArray, List.set_cons_zero, List.set_cons_succ]
            refine take_lit (i := 9) (v := ?vr2x9) rfl (by kernel_rfl) (by kernel_rfl) (by kernel_rfl) (fun _ _ _ h => h) (Or.inl ⟨by rfl, ?hyr2x9⟩) (by assumption) ?restr2x9
            case hyr2x9 => (intro wq hSw; (try dsimp only at hSw); go_simp; try with_reducible rfl)
            simp only [Act.put, List.setIfInBounds_toArray, List.set_cons_zero, List.set_cons_succ]
            refine take_lit (i := 10) (v := ?vr2x10) rfl (by kernel_rfl) (by kernel_rfl) (by kernel_rfl) (fun _ _ _ h => h) (Or.inl ⟨by rfl, ?hyr2x10⟩) (by assumption) ?restr2x10
            case hyr2x10 => (intro wq hSw; (try dsimp only at hSw); go_simp; try with_reducible rfl)
            simp only [Act.put, List.setIfInBounds_toArray, List.set_cons_zero, List.set_cons_succ]
            refine take_lit (i := 11) (v := ?vr2x11) rfl (by kernel_rfl) (by kernel_rfl) (by kernel_rfl) (fun _ _ _ h => h) (Or.inl ⟨by rfl, ?hyr2x11⟩) (by assumption) ?restr2x11
            case hyr2x11 => (intro wq hSw; (try dsimp only at hSw); go_simp; try with_reducible rfl)
            simp only [Act.put, List.setIfInBounds_toArray, List.set_cons_zero, List.set_cons_succ]
            refine take_lit (i := 12) (v := ?vr2x12) rfl (by kernel_rfl) (by kernel_rfl) (by kernel_rfl) (fun _ _ _ h => h) (Or.inl ⟨by rfl, ?hyr2x12⟩) (by assumption) ?restr2x12
            case hyr2x12 => (intro wq hSw; (try dsimp only at hSw); go_simp; try with_reducible rfl)
            simp only [Act.put, List.setIfInBounds_toArray, List.set_cons_zero, List.set_cons_succ]
            refine take_lit (i := 13) (v := ?vr2x13) rfl (by kernel_rfl) (by kernel_rfl) (by kernel_rfl) (fun _ _ _ h => h) (Or.inl ⟨by rfl, ?hyr2x13⟩) (by assumption) ?restr2x13
            case hyr2x13 => (intro wq hSw; (try dsimp only at hSw); go_simp; try with_reducible rfl)
            simp only [Act.put, List.setIfInBounds_toArray, List.set_cons_zero, List.set_cons_succ]
            refine take_lit (i := 14) (v := ?vr2x14) rfl (by kernel_rfl) (by kernel_rfl) (by kernel_rfl) (fun _ _ _ h => h) (Or.inl ⟨by rfl, ?hyr2x14⟩) (by assumption) ?restr2x14
            case hyr2x14 => (intro wq hSw; (try dsimp only at hSw); go_simp; try with_reducible rfl)
            simp only [Act.put, List.setIfInBounds_toArray, List.set_cons_zero, List.set_cons_succ]
            refine ready_lit (i := 15) (by kernel_rfl) rfl (fun K hK => ?_)
            go_simp
            refine (keeps45 p wb yb bb lo rr oa no oc pa np pc ia ic S N k (p.W x) _ hlt H.out.1 (H.out.2.1.mono (Nat.le_refl _) (HST.out _ T5.out.1.1).1 (Nat.le_refl _)) (H.out.2.2.mono (HST.out _ T5.out.1.1).1 (Nat.le_refl _))).mono ?_
            rintro e w6 ⟨he, hb6⟩
            have T6 : Hid ((Below V0.heap.size V0 w6 ∧ VOwn V0.heap.size 3 1 w6 (.slice va m vc) m (oneF D)) ∧ Box w6 yq 96 #[.slice sa (p.Y k).ns sc, .slice la (p.Y k).nl lc, .slice fa (p.Y k).nf fc, .slice oo (p.Y k).no oc2, .slice ma (p.Y k).nm mc]) := ⟨⟨T5.out.1.1.trans (hb6.mono T5.out.1.1.size), T5.out.1.2.mono (Nat.le_refl _) hb6 (Nat.le_refl _)⟩, T5.out.2.mono hb6 (Nat.le_refl _)⟩
            clear hb6
            rw [HKB.out] at he
            subst he
            go_wp2_with fail
            refine hK.out _ _ ?_ (fun hHeld15 => ?_)
            · exact ⟨T6.out.2.cell 1, (HST.out _ T6.out.1.1).2.1.cell 0, (HST.out _ T6.out.1.1).2.1.cell 1, (HST.out _ T6.out.1.1).2.1.cell 2, (HST.out _ T6.out.1.1).2.1.cell 3, (HST.out _ T6.out.1.1).2.1.cell 4, (HST.out _ T6.out.1.1).2.1.cell 5, (HST.out _ T6.out.1.1).2.1.cell 6, (HST.out _ T6.out.1.1).2.1.cell 7, (HST.out _ T6.out.1.1).2.2.cell 0, (HST.out _ T6.out.1.1).1.cell (p := ⟨wb, x, none⟩) HSW.out.1 |>.trans HSW.out.2⟩
            clear hK K
            refine take_lit (i := 16) (v := ?vr2x16) rfl (by kernel_rfl) (by kernel_rfl) (by kernel_rfl) (fun _ _ _ h => h) (Or.inl ⟨by rfl, ?hyr2x16⟩) (by assumption) ?restr2x16
            case hyr2x16 => (intro wq hSw; (try dsimp only at hSw); go_simp; try with_reducible rfl)
            simp only [Act.put, List.setIfInBounds_toArray, List.set_cons_zero, List.set_cons_succ]
            refine take_lit (i := 17) (v := ?vr2x17) rfl (by kernel_rfl) (by kernel_rfl) (by kernel_rfl) (fun _ _ _ h => h) (Or.inl ⟨by rfl, ?hyr2x17⟩) (by assumption) ?restr2x17
            case hyr2x17 => (intro wq hSw; (try dsimp only at hSw); go_simp; try with_reducible rfl)
            simp only [Act.put, List.setIfInBounds_toArray, List.set_cons_zero, List.set_cons_succ]
            refine wpAnyH_done (by kernel_rfl) ?_ _
            have HD2 : Hid (m = selN (fun i => wantsS p S i x) (k + 1) ∧ D = selD (fun i => wantsS p S i x) (k + 1)) := ⟨HD.out.1.trans (selN_no (q := (fun i => wantsS p S i x)) HU.out).symm, HD.out.2.trans (selD_no (q := (fun i => wantsS p S i x)) HU.out).symm⟩
            have M3 := T6.out.1
            go_wp2_with fail
            go_roundw
            case rel => exact ⟨k + 1, m, va, vc, D, by omega, by omega, by go_num, rfl, HD2, M3⟩
            case measure => simp [intOf]; omega
          | true =>
            have HU : Hid (wantsS p S k x = true) := HUU.out
            refine wp_region_held_drew (S := (fun wx : World => wx.cell? ⟨yq, 1, none⟩ = some (.slice la (p.Y k).nl lc) ∧ wx.cell? ⟨w.heap.size, 0, none⟩ = some (.int .i64 p.sec) ∧ wx.cell? ⟨w.heap.size, 1, none⟩ = some (.slice (some ⟨wb, 0, none⟩) p.nw p.nw) ∧ wx.cell? ⟨w.heap.size, 2, none⟩ = some (.slice (some ⟨yb, 0, none⟩) p.ny p.ny) ∧ wx.cell? ⟨w.heap.size, 3, none⟩ = some (.slice (some ⟨bb, 0, none⟩) p.nb p.nb) ∧ wx.cell? ⟨w.heap.size, 4, none⟩ = some (.int .i64 p.hold) ∧ wx.cell? ⟨w.heap.size, 5, none⟩ = some (.slice oa no oc) ∧ wx.cell? ⟨w.heap.size, 6, none⟩ = some (.slice pa np pc) ∧ wx.cell? ⟨w.heap.size, 7, none⟩ = some (.slice ia p.ny ic) ∧ wx.cell? ⟨(w.heap.size + 1), 0, none⟩ = some (.int .i64 (x : Int)) ∧ wx.cell? ⟨wb, x, none⟩ = some (.int .i64 (p.W x)))) (by kernel_rfl) ?_ (fun hHeld => ?_)
            · exact ⟨TV.out.2.cell 1, (HST.out _ TV.out.1.1).2.1.cell 0, (HST.out _ TV.out.1.1).2.1.cell 1, (HST.out _ TV.out.1.1).2.1.cell 2, (HST.out _ TV.out.1.1).2.1.cell 3, (HST.out _ TV.out.1.1).2.1.cell 4, (HST.out _ TV.out.1.1).2.1.cell 5, (HST.out _ TV.out.1.1).2.1.cell 6, (HST.out _ TV.out.1.1).2.1.cell 7, (HST.out _ TV.out.1.1).2.2.cell 0, (HST.out _ TV.out.1.1).1.cell (p := ⟨wb, x, none⟩) HSW.out.1 |>.trans HSW.out.2⟩
            refine take_lit (i := 0) (v := ?vr3x0) rfl (by kernel_rfl) (by kernel_rfl) (by kernel_rfl) (fun _ _ _ h => h) (Or.inl ⟨by rfl, ?hyr3x0⟩) (by assumption) ?restr3x0
            case hyr3x0 => (intro wq hSw; (try dsimp only at hSw); go_simp; try with_reducible rfl)
            simp only [Act.put, List.setIfInBounds_toArray, List.set_cons_zero, List.set_cons_succ]
            refine take_lit (i := 1) (v := ?vr3x1) rfl (by kernel_rfl) (by kernel_rfl) (by kernel_rfl) (fun _ _ _ h => h) (Or.inl ⟨by rfl, ?hyr3x1⟩) (by assumption) ?restr3x1
            case hyr3x1 => (intro wq hSw; (try dsimp only at hSw); go_simp; try with_reducible rfl)
            simp only [Act.put, List.setIfInBounds_toArray, List.set_cons_zero, List.set_cons_succ]
            refine take_lit (i := 2) (v := ?vr3x2) rfl (by kernel_rfl) (by kernel_rfl) (by kernel_rfl) (fun _ _ _ h => h) (Or.inl ⟨by rfl, ?hyr3x2⟩) (by assumption) ?restr3x2
            case hyr3x2 => (intro wq hSw; (try dsimp only at hSw); go_simp; try with_reducible rfl)
            simp only [Act.put, List.setIfInBounds_toArray, List.set_cons_zero, List.set_cons_succ]
            refine take_lit (i := 3) (v := ?vr3x3) rfl (by kernel_rfl) (by kernel_rfl) (by kernel_rfl) (fun _ _ _ h => h) (Or.inl ⟨by rfl, ?hyr3x3⟩) (by assumption) ?restr3x3
            case hyr3x3 => (intro wq hSw; (try dsimp only at hSw); go_simp; try with_reducible rfl)
            simp only [Act.put, List.setIfInBounds_toArray, List.set_cons_zero, List.set_cons_succ]
            refine take_lit (i := 4) (v := ?vr3x4) rfl (by kernel_rfl) (by kernel_rfl) (by kernel_rfl) (fun _ _ _ h => h) (Or.inl ⟨by rfl, ?hyr3x4⟩) (by assumption) ?restr3x4
            case hyr3x4 => (intro wq hSw; (try dsimp only at hSw); go_simp; try with_reducible rfl)
            simp only [Act.put, List.setIfInBounds_toArray, List.set_cons_zero, List.set_cons_succ]
            refine ready_lit (i := 5) (by kernel_rfl) rfl (fun K hK => ?_)
            go_simp
            refine (contains90 la (p.Y k).nl lc (p.Y k).L (w.heap.size + 1) (x : Int) _ hnl (HL.out.mono (Nat.le_refl _) BD.out (Nat.le_refl _)) (HST.out _ TD.out.1.1).2.2.lt ((HST.out _ TD.out.1.1).2.2.cell 0)).mono ?_
            rintro e w5 ⟨he, hb5⟩
            have T5 : Hid ((Below V0.heap.size V0 w5 ∧ VOwn V0.heap.size 3 1 w5 (.slice va m vc) m (oneF D)) ∧ Box w5 yq 96 #[.slice sa (p.Y k).ns sc, .slice la (p.Y k).nl lc, .slice fa (p.Y k).nf fc, .slice oo (p.Y k).no oc2, .slice ma (p.Y k).nm mc]) := ⟨⟨TD.out.1.1.trans (hb5.mono TD.out.1.1.size), TD.out.1.2.mono (Nat.le_refl _) hb5 (Nat.le_refl _)⟩, TD.out.2.mono hb5 (Nat.le_refl _)⟩
            clear hb5
            rw [HA.out] at he
            subst he
            go_wp2_with fail
            refine hK.out _ _ ?_ (fun hHeld5 => ?_)
            · exact ⟨T5.out.2.cell 1, (HST.out _ T5.out.1.1).2.1.cell 0, (HST.out _ T5.out.1.1).2.1.cell 1, (HST.out _ T5.out.1.1).2.1.cell 2, (HST.out _ T5.out.1.1).2.1.cell 3, (HST.out _ T5.out.1.1).2.1.cell 4, (HST.out _ T5.out.1.1).2.1.cell 5, (HST.out _ T5.out.1.1).2.1.cell 6, (HST.out _ T5.out.1.1).2.1.cell 7, (HST.out _ T5.out.1.1).2.2.cell 0, (HST.out _ T5.out.1.1).1.cell (p := ⟨wb, x, none⟩) HSW.out.1 |>.trans HSW.out.2⟩
            clear hK K
            refine take_lit (i := 6) (v := ?vr3x6) rfl (by kernel_rfl) (by kernel_rfl) (by kernel_rfl) (fun _ _ _ h => h) (Or.inl ⟨by rfl, ?hyr3x6⟩) (by assumption) ?restr3x6
            case hyr3x6 => (intro wq hSw; (try dsimp only at hSw); go_simp; try with_reducible rfl)
            simp only [Act.put, List.setIfInBounds_toArray, List.set_cons_zero, List.set_cons_succ]
            refine take_lit (i := 7) (v := ?vr3x7) rfl (by kernel_rfl) (by kernel_rfl) (by kernel_rfl) (fun _ _ _ h => h) (Or.inl ⟨by rfl, ?hyr3x7⟩) (by assumption) ?restr3x7
            case hyr3x7 => (intro wq hSw; (try dsimp only at hSw); go_simp; try with_reducible rfl)
            simp only [Act.put, List.setIfInBounds_toArray, List.set_cons_zero, List.set_cons_succ]
            refine take_lit (i := 8) (v := ?vr3x8) rfl (by kernel_rfl) (by kernel_rfl) (by kernel_rfl) (fun _ _ _ h => h) (Or.inl ⟨by rfl, ?hyr3x8⟩) (by assumption) ?restr3x8
            case hyr3x8 => (intro wq hSw; (try dsimp only at hSw); go_simp; try with_reducible rfl)
            simp only [Act.put, List.setIfInBounds_toArray, List.set_cons_zero, List.set_cons_succ]
            refine take_lit (i := 9) (v := ?vr3x9) rfl (by kernel_rfl) (by kernel_rfl) (by kernel_rfl) (fun _ _ _ h => h) (Or.inl ⟨by rfl, ?hyr3x9⟩) (by assumption) ?restr3x9
            case hyr3x9 => (intro wq hSw; (try dsimp only at hSw); go_simp; try with_reducible rfl)
            simp only [Act.put, List.setIfInBounds_toArray, List.set_cons_zero, List.set_cons_succ]
            refine take_lit (i := 10) (v := ?vr3x10) rfl (by kernel_rfl) (by kernel_rfl) (by kernel_rfl) (fun _ _ _ h => h) (Or.inl ⟨by rfl, ?hyr3x10⟩) (by assumption) ?restr3x10
            case hyr3x10 => (intro wq hSw; (try dsimp only at hSw); go_simp; try with_reducible rfl)
            simp only [Act.put, List.setIfInBounds_toArray, List.set_cons_zero, List.set_cons_succ]
            refine take_lit (i := 11) (v := ?vr3x11) rfl (by kernel_rfl) (by kernel_rfl) (by kernel_rfl) (fun _ _ _ h => h) (Or.inl ⟨by rfl, ?hyr3x11⟩) (by assumption) ?restr3x11
            case hyr3x11 => (intro wq hSw; (try dsimp only at hSw); go_simp; try with_reducible rfl)
            simp only [Act.put, List.setIfInBounds_toArray, List.set_cons_zero, List.set_cons_succ]
            refine take_lit (i := 12) (v := ?vr3x12) rfl (by kernel_rfl) (by kernel_rfl) (by kernel_rfl) (fun _ _ _ h => h) (Or.inl ⟨by rfl, ?hyr3x12⟩) (by assumption) ?restr3x12
            case hyr3x12 => (intro wq hSw; (try dsimp only at hSw); go_simp; try with_reducible rfl)
            simp only [Act.put, List.setIfInBounds_toArray, List.set_cons_zero, List.set_cons_succ]
            refine take_lit (i := 13) (v := ?vr3x13) rfl (by kernel_rfl) (by kernel_rfl) (by kernel_rfl) (fun _ _ _ h => h) (Or.inl ⟨by rfl, ?hyr3x13⟩) (by assumption) ?restr3x13
            case hyr3x13 => (intro wq hSw; (try dsimp only at hSw); go_simp; try with_reducible rfl)
            simp only [Act.put, List.setIfInBounds_toArray, List.set_cons_zero, List.set_cons_succ]
            refine take_lit (i := 14) (v := ?vr3x14) rfl (by kernel_rfl) (by kernel_rfl) (by kernel_rfl) (fun _ _ _ h => h) (Or.inl ⟨by rfl, ?hyr3x14⟩) (by assumption) ?restr3x14
            case hyr3x14 => (intro wq hSw; (try dsimp only at hSw); go_simp; try with_reducible rfl)
            simp only [Act.put, List.setIfInBounds_toArray, List.set_cons_zero, List.set_cons_succ]
            refine ready_lit (i := 15) (by kernel_rfl) rfl (fun K hK => ?_)
            go_simp
            refine (keeps45 p wb yb bb lo rr oa no oc pa np pc ia ic S N k (p.W x) _ hlt H.out.1 (H.out.2.1.mono (Nat.le_refl _) (HST.out _ T5.out.1.1).1 (Nat.le_refl _)) (H.out.2.2.mono (HST.out _ T5.out.1.1).1 (Nat.le_refl _))).mono ?_
            rintro e w6 ⟨he, hb6⟩
            have T6 : Hid ((Below V0.heap.size V0 w6 ∧ VOwn V0.heap.size 3 1 w6 (.slice va m vc) m (oneF D)) ∧ Box w6 yq 96 #[.slice sa (p.Y k).ns sc, .slice la (p.Y k).nl lc, .slice fa (p.Y k).nf fc, .slice oo (p.Y k).no oc2, .slice ma (p.Y k).nm mc]) := ⟨⟨T5.out.1.1.trans (hb6.mono T5.out.1.1.size), T5.out.1.2.mono (Nat.le_refl _) hb6 (Nat.le_refl _)⟩, T5.out.2.mono hb6 (Nat.le_refl _)⟩
            clear hb6
            rw [HKB.out] at he
            subst he
            go_wp2_with fail
            refine hK.out _ _ ?_ (fun hHeld15 => ?_)
            · exact ⟨T6.out.2.cell 1, (HST.out _ T6.out.1.1).2.1.cell 0, (HST.out _ T6.out.1.1).2.1.cell 1, (HST.out _ T6.out.1.1).2.1.cell 2, (HST.out _ T6.out.1.1).2.1.cell 3, (HST.out _ T6.out.1.1).2.1.cell 4, (HST.out _ T6.out.1.1).2.1.cell 5, (HST.out _ T6.out.1.1).2.1.cell 6, (HST.out _ T6.out.1.1).2.1.cell 7, (HST.out _ T6.out.1.1).2.2.cell 0, (HST.out _ T6.out.1.1).1.cell (p := ⟨wb, x, none⟩) HSW.out.1 |>.trans HSW.out.2⟩
            clear hK K
            refine take_lit (i := 16) (v := ?vr3x16) rfl (by kernel_rfl) (by kernel_rfl) (by kernel_rfl) (fun _ _ _ h => h) (Or.inl ⟨by rfl, ?hyr3x16⟩) (by assumption) ?restr3x16
            case hyr3x16 => (intro wq hSw; (try dsimp only at hSw); go_simp; try with_reducible rfl)
            simp only [Act.put, List.setIfInBounds_toArray, List.set_cons_zero, List.set_cons_succ]
            refine take_lit (i := 17) (v := ?vr3x17) rfl (by kernel_rfl) (by kernel_rfl) (by kernel_rfl) (fun _ _ _ h => h) (Or.inl ⟨by rfl, ?hyr3x17⟩) (by assumption) ?restr3x17
            case hyr3x17 => (intro wq hSw; (try dsimp only at hSw); go_simp; try with_reducible rfl)
            simp only [Act.put, List.setIfInBounds_toArray, List.set_cons_zero, List.set_cons_succ]
            refine wpAnyH_done (by kernel_rfl) ?_ _
            have HD2 : Hid (m + 1 = selN (fun i => wantsS p S i x) (k + 1) ∧ updI D m (k : Int) = selD (fun i => wantsS p S i x) (k + 1)) := ⟨by rw [selN_yes (q := (fun i => wantsS p S i x)) HU.out, HD.out.1], by rw [selD_yes (q := (fun i => wantsS p S i x)) HU.out, HD.out.1, HD.out.2]⟩
            have hszr : V0.heap.size ≤ w6.heap.size := T6.out.1.1.size
            have M3 : Hid (Below V0.heap.size V0 w6 ∧ VOwn V0.heap.size 3 1 w6 (.slice va m vc) m (oneF D)) := T6.out.1
            have HW : Hid (VOwn V0.heap.size 3 1 w6 (.slice va m vc) m (oneF (updI D m (k : Int)))) := M3.out.2.congr fun i hi j _ => by simp [oneF, updI, hi]
            have hbx : Box (w6.alloc (.cells #[.int .i64 (k : Int)] 3)) w6.heap.size 3 #[.int .i64 (k : Int)] := Box.new _ _ _
            go_wp2_with (at_builtin; go_must (refine wpList_vapp _ rfl _ _ 22 rfl V0.heap.size 3 i0 _ 1 8 Tryz.underlying22 hi0 hz0 hs0 hb0 rfl (by decide) (.slice va m vc) m (oneF (updI D m (k : Int))) rfl (HW.out.alloc _) (fun _ _ => rfl) w6.heap.size 1 #[.int .i64 (k : Int)] rfl hbx (by simp [oneF, updI]) (by simp only [maxLen]; omega) (by omega) (by simp; omega) (Halt.mk ?_)))
            intro v2 w2 o2 g2
            obtain ⟨va2, vc2, rfl⟩ := o2.val
            have M2 : Hid (Below V0.heap.size V0 w2 ∧ VOwn V0.heap.size 3 1 w2 (.slice va2 (m + 1) vc2) (m + 1) (oneF (updI D m (k : Int)))) := ⟨(M3.out.1.alloc hszr _).grown g2 (by simp; omega) (fun j hj => (HW.out.lt hj).1), o2⟩
            clear o2 g2 HW hbx
            go_wp2_with fail
            go_roundw
            case rel => exact ⟨k + 1, m + 1, va2, vc2, _, by omega, by omega, by go_num, rfl, HD2, M2⟩
            case measure => simp [intOf]; omega
      | true =>
        have y2 : w3.cell? ⟨yq, 2, none⟩ = some (.slice fa (p.Y k).nf fc) := T3.out.2.cell 2
        have HV3 := HST.out w3 T3.out.1.1
        go_wp2_with fail
        clear y2
        refine (contains90 fa (p.Y k).nf fc (p.Y k).F (w.heap.size + 1) (x : Int) w3 hnf HLF3.out.2 HV3.2.2.lt (HV3.2.2.cell 0)).mono ?_
        clear HV3
        rintro e w4 ⟨he, hb4⟩
        have T4 : Hid ((Below V0.heap.size V0 w4 ∧ VOwn V0.heap.size 3 1 w4 (.slice va m vc) m (oneF D)) ∧ Box w4 yq 96 #[.slice sa (p.Y k).ns sc, .slice la (p.Y k).nl lc, .slice fa (p.Y k).nf fc, .slice oo (p.Y k).no oc2, .slice ma (p.Y k).nm mc]) := ⟨⟨T3.out.1.1.trans (hb4.mono T3.out.1.1.size), T3.out.1.2.mono (Nat.le_refl _) hb4 (Nat.le_refl _)⟩, T3.out.2.mono hb4 (Nat.le_refl _)⟩
        have HL : Hid (VsAt 2 0 w4 la (p.Y k).nl (intF (p.Y k).L)) := HLF3.out.1.mono (Nat.le_refl _) hb4 (Nat.le_refl _)
        clear hb4 T3 HLF3
        obtain ⟨uf, HFL⟩ : ∃ u, Hid (anyB (fun j => decide ((p.Y k).F j 0 = (x : Int))) (p.Y k).nf = u) := ⟨_, rfl⟩
        rw [HFL.out] at he
        subst he
        cases uf with
        | true =>
          have HU : Hid (wantsS p S k x = true) := by rw [Hid, wantsS, HH.out, HFL.out]; rfl
          go_wp2_with fail
          have TV : Hid ((Below V0.heap.size V0 w4 ∧ VOwn V0.heap.size 3 1 w4 (.slice va m vc) m (oneF D)) ∧ Box w4 yq 96 #[.slice sa (p.Y k).ns sc, .slice la (p.Y k).nl lc, .slice fa (p.Y k).nf fc, .slice oo (p.Y k).no oc2, .slice ma (p.Y k).nm mc]) := T4
          have BD : Hid (Below w4.heap.size w4 w4.drew) := (Below.refl _ _).drew
          have TD : Hid ((Below V0.heap.size V0 w4.drew ∧ VOwn V0.heap.size 3 1 w4.drew (.slice va m vc) m (oneF D)) ∧ Box w4.drew yq 96 #[.slice sa (p.Y k).ns sc, .slice la (p.Y k).nl lc, .slice fa (p.Y k).nf fc, .slice oo (p.Y k).no oc2, .slice ma (p.Y k).nm mc]) := ⟨⟨TV.out.1.1.drew, TV.out.1.2.keep (Nat.le_refl _) fun _ _ => rfl⟩, TV.out.2.drew⟩
          clear T4
          refine wp_region_held_drew (S := (fun wx : World => wx.cell? ⟨yq, 1, none⟩ = some (.slice la (p.Y k).nl lc) ∧ wx.cell? ⟨w.heap.size, 0, none⟩ = some (.int .i64 p.sec) ∧ wx.cell? ⟨w.heap.size, 1, none⟩ = some (.slice (some ⟨wb, 0, none⟩) p.nw p.nw) ∧ wx.cell? ⟨w.heap.size, 2, none⟩ = some (.slice (some ⟨yb, 0, none⟩) p.ny p.ny) ∧ wx.cell? ⟨w.heap.size, 3, none⟩ = some (.slice (some ⟨bb, 0, none⟩) p.nb p.nb) ∧ wx.cell? ⟨w.heap.size, 4, none⟩ = some (.int .i64 p.hold) ∧ wx.cell? ⟨w.heap.size, 5, none⟩ = some (.slice oa no oc) ∧ wx.cell? ⟨w.heap.size, 6, none⟩ = some (.slice pa np pc) ∧ wx.cell? ⟨w.heap.size, 7, none⟩ = some (.slice ia p.ny ic) ∧ wx.cell? ⟨(w.heap.size + 1), 0, none⟩ = some (.int .i64 (x : Int)) ∧ wx.cell? ⟨wb, x, none⟩ = some (.int .i64 (p.W x)))) (by kernel_rfl) ?_ (fun hHeld => ?_)
          · exact ⟨TV.out.2.cell 1, (HST.out _ TV.out.1.1).2.1.cell 0, (HST.out _ TV.out.1.1).2.1.cell 1, (HST.out _ TV.out.1.1).2.1.cell 2, (HST.out _ TV.out.1.1).2.1.cell 3, (HST.out _ TV.out.1.1).2.1.cell 4, (HST.out _ TV.out.1.1).2.1.cell 5, (HST.out _ TV.out.1.1).2.1.cell 6, (HST.out _ TV.out.1.1).2.1.cell 7, (HST.out _ TV.out.1.1).2.2.cell 0, (HST.out _ TV.out.1.1).1.cell (p := ⟨wb, x, none⟩) HSW.out.1 |>.trans HSW.out.2⟩
          refine take_lit (i := 0) (v := ?vr4x0) rfl (by kernel_rfl) (by kernel_rfl) (by kernel_rfl) (fun _ _ _ h => h) (Or.inl ⟨by rfl, ?hyr4x0⟩) (by assumption) ?restr4x0
          case hyr4x0 => (intro wq hSw; (try dsimp only at hSw); go_simp; try with_reducible rfl)
          simp only [Act.put, List.setIfInBounds_toArray, List.set_cons_zero, List.set_cons_succ]
          refine take_lit (i := 1) (v := ?vr4x1) rfl (by kernel_rfl) (by kernel_rfl) (by kernel_rfl) (fun _ _ _ h => h) (Or.inl ⟨by rfl, ?hyr4x1⟩) (by assumption) ?restr4x1
          case hyr4x1 => (intro wq hSw; (try dsimp only at hSw); go_simp; try with_reducible rfl)
          simp only [Act.put, List.setIfInBounds_toArray, List.set_cons_zero, List.set_cons_succ]
          refine take_lit (i := 2) (v := undef) rfl (by kernel_rfl) (by kernel_rfl) (by kernel_rfl) (fun _ _ _ h => h) (Or.inr ⟨by kernel_rfl, rfl⟩) (by assumption) ?_
          simp only [Act.put, List.setIfInBounds_toArray, List.set_cons_zero, List.set_cons_succ]
          refine take_lit (i := 3) (v := undef) rfl (by kernel_rfl) (by kernel_rfl) (by kernel_rfl) (fun _ _ _ h => h) (Or.inr ⟨by kernel_rfl, rfl⟩) (by assumption) ?_
          simp only [Act.put, List.setIfInBounds_toArray, List.set_cons_zero, List.set_cons_succ]
          refine take_lit (i := 4) (v := undef) rfl (by kernel_rfl) (by kernel_rfl) (by kernel_rfl) (fun _ _ _ h => h) (Or.inr ⟨by kernel_rfl, rfl⟩) (by assumption) ?_
          simp only [Act.put, List.setIfInBounds_toArray, List.set_cons_zero, List.set_cons_succ]
          refine take_lit (i := 5) (v := undef) rfl (by kernel_rfl) (by kernel_rfl) (by kernel_rfl) (fun _ _ _ h => h) (Or.inr ⟨by kernel_rfl, rfl⟩) (by assumption) ?_
          simp only [Act.put, List.setIfInBounds_toArray, List.set_cons_zero, List.set_cons_succ]
          refine take_lit (i := 6) (v := undef) rfl (by kernel_rfl) (by kernel_rfl) (by kernel_rfl) (fun _ _ _ h => h) (Or.inr ⟨by kernel_rfl, rfl⟩) (by assumption) ?_
          simp only [Act.put, List.setIfInBounds_toArray, List.set_cons_zero, List.set_cons_succ]
          refine take_lit (i := 7) (v := undef) rfl (by kernel_rfl) (by kernel_rfl) (by kernel_rfl) (fun _ _ _ h => h) (Or.inr ⟨by kernel_rfl, rfl⟩) (by assumption) ?_
          simp only [Act.put, List.setIfInBounds_toArray, List.set_cons_zero, List.set_cons_succ]
          refine take_lit (i := 8) (v := undef) rfl (by kernel_rfl) (by kernel_rfl) (by kernel_rfl) (fun _ _ _ h => h) (Or.inr ⟨by kernel_rfl, rfl⟩) (by assumption) ?_
          simp only [Act.put, List.setIfInBounds_toArray, List.set_cons_zero, List.set_cons_succ]
          refine take_lit (i := 9) (v := undef) rfl (by kernel_rfl) (by kernel_rfl) (by kernel_rfl) (fun _ _ _ h => h) (Or.inr ⟨by kernel_rfl, rfl⟩) (by assumption) ?_
          simp only [Act.put, List.setIfInBounds_toArray, List.set_cons_zero, List.set_cons_succ]
          refine take_lit (i := 10) (v := undef) rfl (by kernel_rfl) (by kernel_rfl) (by kernel_rfl) (fun _ _ _ h => h) (Or.inr ⟨by kernel_rfl, rfl⟩) (by assumption) ?_
          simp only [Act.put, List.setIfInBounds_toArray, List.set_cons_zero, List.set_cons_succ]
          refine take_lit (i := 11) (v := undef) rfl (by kernel_rfl) (by kernel_rfl) (by kernel_rfl) (fun _ _ _ h => h) (Or.inr ⟨by kernel_rfl, rfl⟩) (by assumption) ?_
          simp only [Act.put, List.setIfInBounds_toArray, List.set_cons_zero, List.set_cons_succ]
          refine take_lit (i := 12) (v := undef) rfl (by kernel_rfl) (by kernel_rfl) (by kernel_rfl) (fun _ _ _ h => h) (Or.inr ⟨by kernel_rfl, rfl⟩) (by assumption) ?_
          simp only [Act.put, List.setIfInBounds_toArray, List.set_cons_zero, List.set_cons_succ]
          refine take_lit (i := 13) (v := undef) rfl (by kernel_rfl) (by kernel_rfl) (by kernel_rfl) (fun _ _ _ h => h) (Or.inr ⟨by kernel_rfl, rfl⟩) (by assumption) ?_
          simp only [Act.put, List.setIfInBounds_toArray, List.set_cons_zero, List.set_cons_succ]
          refine take_lit (i := 14) (v := undef) rfl (by kernel_rfl) (by kernel_rfl) (by kernel_rfl) (fun _ _ _ h => h) (Or.inr ⟨by kernel_rfl, rfl⟩) (by assumption) ?_
          simp only [Act.put, List.setIfInBounds_toArray, List.set_cons_zero, List.set_cons_succ]
          refine take_lit (i := 15) (v := undef) rfl (by kernel_rfl) (by kernel_rfl) (by kernel_rfl) (fun _ _ _ h => h) (Or.inr ⟨by kernel_rfl, rfl⟩) (by assumption) ?_
          simp only [Act.put, List.setIfInBounds_toArray, List.set_cons_zero, List.set_cons_succ]
          refine take_lit (i := 16) (v := undef) rfl (by kernel_rfl) (by kernel_rfl) (by kernel_rfl) (fun _ _ _ h => h) (Or.inr ⟨by kernel_rfl, rfl⟩) (by assumption) ?_
          simp only [Act.put, List.setIfInBounds_toArray, List.set_cons_zero, List.set_cons_succ]
          refine take_lit (i := 17) (v := ?vr4x17) rfl (by kernel_rfl) (by kernel_rfl) (by kernel_rfl) (fun _ _ _ h => h) (Or.inl ⟨by rfl, ?hyr4x17⟩) (by assumption) ?restr4x17
          case hyr4x17 => (intro wq hSw; (try dsimp only at hSw); go_simp; try with_reducible rfl)
          simp only [Act.put, List.setIfInBounds_toArray, List.set_cons_zero, List.set_cons_succ]
          refine wpAnyH_done (by kernel_rfl) ?_ _
          clear BD
          generalize w4.drew = W9 at TD ⊢
          have HD2 : Hid (m + 1 = selN (fun i => wantsS p S i x) (k + 1) ∧ updI D m (k : Int) = selD (fun i => wantsS p S i x) (k + 1)) := ⟨by rw [selN_yes (q := (fun i => wantsS p S i x)) HU.out, HD.out.1], by rw [selD_yes (q := (fun i => wantsS p S i x)) HU.out, HD.out.1, HD.out.2]⟩
          have hszr : V0.heap.size ≤ W9.heap.size := TD.out.1.1.size
          have M3 : Hid (Below V0.heap.size V0 W9 ∧ VOwn V0.heap.size 3 1 W9 (.slice va m vc) m (oneF D)) := TD.out.1
          have HW : Hid (VOwn V0.heap.size 3 1 W9 (.slice va m vc) m (oneF (updI D m (k : Int)))) := M3.out.2.congr fun i hi j _ => by simp [oneF, updI, hi]
          have hbx : Box (W9.alloc (.cells #[.int .i64 (k : Int)] 3)) W9.heap.size 3 #[.int .i64 (k : Int)] := Box.new _ _ _
          go_wp2_with (at_builtin; go_must (refine wpList_vapp _ rfl _ _ 22 rfl V0.heap.size 3 i0 _ 1 8 Tryz.underlying22 hi0 hz0 hs0 hb0 rfl (by decide) (.slice va m vc) m (oneF (updI D m (k : Int))) rfl (HW.out.alloc _) (fun _ _ => rfl) W9.heap.size 1 #[.int .i64 (k : Int)] rfl hbx (by simp [oneF, updI]) (by simp only [maxLen]; omega) (by omega) (by simp; omega) (Halt.mk ?_)))
          intro v2 w2 o2 g2
          obtain ⟨va2, vc2, rfl⟩ := o2.val
          have M2 : Hid (Below V0.heap.size V0 w2 ∧ VOwn V0.heap.size 3 1 w2 (.slice va2 (m + 1) vc2) (m + 1) (oneF (updI D m (k : Int)))) := ⟨(M3.out.1.alloc hszr _).grown g2 (by simp; omega) (fun j hj => (HW.out.lt hj).1), o2⟩
          clear o2 g2 HW hbx
          go_wp2_with fail
          go_roundw
          case rel => exact ⟨k + 1, m + 1, va2, vc2, _, by omega, by omega, by go_num, rfl, HD2, M2⟩
          case measure => simp [intOf]; omega
        | false =>
          have HBES : Hid ((heldS (S k) && anyB (fun j => decide ((p.Y k).F j 0 = (x : Int))) (p.Y k).nf) = false) := by rw [Hid, HH.out, HFL.out]; rfl
          go_wp2_with fail
          have TV : Hid ((Below V0.heap.size V0 w4 ∧ VOwn V0.heap.size 3 1 w4 (.slice va m vc) m (oneF D)) ∧ Box w4 yq 96 #[.slice sa (p.Y k).ns sc, .slice la (p.Y k).nl lc, .slice fa (p.Y k).nf fc, .slice oo (p.Y k).no oc2, .slice ma (p.Y k).nm mc]) := T4
          have BD : Hid (Below w4.heap.size w4 w4.drew) := (Below.refl _ _).drew
          have TD : Hid ((Below V0.heap.size V0 w4.drew ∧ VOwn V0.heap.size 3 1 w4.drew (.slice va m vc) m (oneF D)) ∧ Box w4.drew yq 96 #[.slice sa (p.Y k).ns sc, .slice la (p.Y k).nl lc, .slice fa (p.Y k).nf fc, .slice oo (p.Y k).no oc2, .slice ma (p.Y k).nm mc]) := ⟨⟨TV.out.1.1.drew, TV.out.1.2.keep (Nat.le_refl _) fun _ _ => rfl⟩, TV.out.2.drew⟩
          clear T4
          obtain ⟨ua, HA⟩ : ∃ u, Hid (anyB (fun j => decide ((p.Y k).L j 0 = (x : Int))) (p.Y k).nl = u) := ⟨_, rfl⟩
          obtain ⟨uk, HKB⟩ : ∃ u, Hid (keepsB p S k (p.W x) = u) := ⟨_, rfl⟩
          have HUU : Hid (wantsS p S k x = (ua && uk)) := by rw [Hid, wantsS, HBES.out, HA.out, HKB.out, Bool.false_or]
          cases ua with
          | false =>
            have HU : Hid (wantsS p S k x = false) := HUU.out
            refine wp_region_held_drew (S := (fun wx : World => wx.cell? ⟨yq, 1, none⟩ = some (.slice la (p.Y k).nl lc) ∧ wx.cell? ⟨w.heap.size, 0, none⟩ = some (.int .i64 p.sec) ∧ wx.cell? ⟨w.heap.size, 1, none⟩ = some (.slice (some ⟨wb, 0, none⟩) p.nw p.nw) ∧ wx.cell? ⟨w.heap.size, 2, none⟩ = some (.slice (some ⟨yb, 0, none⟩) p.ny p.ny) ∧ wx.cell? ⟨w.heap.size, 3, none⟩ = some (.slice (some ⟨bb, 0, none⟩) p.nb p.nb) ∧ wx.cell? ⟨w.heap.size, 4, none⟩ = some (.int .i64 p.hold) ∧ wx.cell? ⟨w.heap.size, 5, none⟩ = some (.slice oa no oc) ∧ wx.cell? ⟨w.heap.size, 6, none⟩ = some (.slice pa np pc) ∧ wx.cell? ⟨w.heap.size, 7, none⟩ = some (.slice ia p.ny ic) ∧ wx.cell? ⟨(w.heap.size + 1), 0, none⟩ = some (.int .i64 (x : Int)) ∧ wx.cell? ⟨wb, x, none⟩ = some (.int .i64 (p.W x)))) (by kernel_rfl) ?_ (fun hHeld => ?_)
            · exact ⟨TV.out.2.cell 1, (HST.out _ TV.out.1.1).2.1.cell 0, (HST.out _ TV.out.1.1).2.1.cell 1, (HST.out _ TV.out.1.1).2.1.cell 2, (HST.out _ TV.out.1.1).2.1.cell 3, (HST.out _ TV.out.1.1).2.1.cell 4, (HST.out _ TV.out.1.1).2.1.cell 5, (HST.out _ TV.out.1.1).2.1.cell 6, (HST.out _ TV.out.1.1).2.1.cell 7, (HST.out _ TV.out.1.1).2.2.cell 0, (HST.out _ TV.out.1.1).1.cell (p := ⟨wb, x, none⟩) HSW.out.1 |>.trans HSW.out.2⟩
            refine take_lit (i := 0) (v := ?vr5x0) rfl (by kernel_rfl) (by kernel_rfl) (by kernel_rfl) (fun _ _ _ h => h) (Or.inl ⟨by rfl, ?hyr5x0⟩) (by assumption) ?restr5x0
            case hyr5x0 => (intro wq hSw; (try dsimp only at hSw); go_simp; try with_reducible rfl)
            simp only [Act.put, List.setIfInBounds_toArray, List.set_cons_zero, List.set_cons_succ]
            refine take_lit (i := 1) (v := ?vr5x1) rfl (by kernel_rfl) (by kernel_rfl) (by kernel_rfl) (fun _ _ _ h => h) (Or.inl ⟨by rfl, ?hyr5x1⟩) (by assumption) ?restr5x1
            case hyr5x1 => (intro wq hSw; (try dsimp only at hSw); go_simp; try with_reducible rfl)
            simp only [Act.put, List.setIfInBounds_toArray, List.set_cons_zero, List.set_cons_succ]
            refine take_lit (i := 2) (v := ?vr5x2) rfl (by kernel_rfl) (by kernel_rfl) (by kernel_rfl) (fun _ _ _ h => h) (Or.inl ⟨by rfl, ?hyr5x2⟩) (by assumption) ?restr5x2
            case hyr5x2 => (intro wq hSw; (try dsimp only at hSw); go_simp; try with_reducible rfl)
            simp only [Act.put, List.setIfInBounds_toArray, List.set_cons_zero, List.set_cons_succ]
            refine take_lit (i := 3) (v := ?vr5x3) rfl (by kernel_rfl) (by kernel_rfl) (by kernel_rfl) (fun _ _ _ h => h) (Or.inl ⟨by rfl, ?hyr5x3⟩) (by assumption) ?restr5x3
            case hyr5x3 => (intro wq hSw; (try dsimp only at hSw); go_simp; try with_reducible rfl)
            simp only [Act.put, List.setIfInBounds_toArray, List.set_cons_zero, List.set_cons_succ]
            refine take_lit (i := 4) (v := ?vr5x4) rfl (by kernel_rfl) (by kernel_rfl) (by kernel_rfl) (fun _ _ _ h => h) (Or.inl ⟨by rfl, ?hyr5x4⟩) (by assumption) ?restr5x4
            case hyr5x4 => (intro wq hSw; (try dsimp only at hSw); go_simp; try with_reducible rfl)
            simp only [Act.put, List.setIfInBounds_toArray, List.set_cons_zero, List.set_cons_succ]
            refine ready_lit (i := 5) (by kernel_rfl) rfl (fun K hK => ?_)
            go_simp
            refine (contains90 la (p.Y k).nl lc (p.Y k).L (w.heap.size + 1) (x : Int) _ hnl (HL.out.mono (Nat.le_refl _) BD.out (Nat.le_refl _)) (HST.out _ TD.out.1.1).2.2.lt ((HST.out _ TD.out.1.1).2.2.cell 0)).mono ?_
            rintro e w5 ⟨he, hb5⟩
            have T5 : Hid ((Below V0.heap.size V0 w5 ∧ VOwn V0.heap.size 3 1 w5 (.slice va m vc) m (oneF D)) ∧ Box w5 yq 96 #[.slice sa (p.Y k).ns sc, .slice la (p.Y k).nl lc, .slice fa (p.Y k).nf fc, .slice oo (p.Y k).no oc2, .slice ma (p.Y k).nm mc]) := ⟨⟨TD.out.1.1.trans (hb5.mono TD.out.1.1.size), TD.out.1.2.mono (Nat.le_refl _) hb5 (Nat.le_refl _)⟩, TD.out.2.mono hb5 (Nat.le_refl _)⟩
            clear hb5
            rw [HA.out] at he
            subst he
            go_wp2_with fail
            refine hK.out _ _ ?_ (fun hHeld5 => ?_)
            · exact ⟨T5.out.2.cell 1, (HST.out _ T5.out.1.1).2.1.cell 0, (HST.out _ T5.out.1.1).2.1.cell 1, (HST.out _ T5.out.1.1).2.1.cell 2, (HST.out _ T5.out.1.1).2.1.cell 3, (HST.out _ T5.out.1.1).2.1.cell 4, (HST.out _ T5.out.1.1).2.1.cell 5, (HST.out _ T5.out.1.1).2.1.cell 6, (HST.out _ T5.out.1.1).2.1.cell 7, (HST.out _ T5.out.1.1).2.2.cell 0, (HST.out _ T5.out.1.1).1.cell (p := ⟨wb, x, none⟩) HSW.out.1 |>.trans HSW.out.2⟩
            clear hK K
            refine take_lit (i := 6) (v := ?vr5x6) rfl (by kernel_rfl) (by kernel_rfl) (by kernel_rfl) (fun _ _ _ h => h) (Or.inl ⟨by rfl, ?hyr5x6⟩) (by assumption) ?restr5x6
            case hyr5x6 => (intro wq hSw; (try dsimp only at hSw); go_simp; try with_reducible rfl)
            simp only [Act.put, List.setIfInBounds_toArray, List.set_cons_zero, List.set_cons_succ]
            refine take_lit (i := 7) (v := undef) rfl (by kernel_rfl) (by kernel_rfl) (by kernel_rfl) (fun _ _ _ h => h) (Or.inr ⟨by kernel_rfl, rfl⟩) (by assumption) ?_
            simp only [Act.put, List.setIfInBounds_toArray, List.set_cons_zero, List.set_cons_succ]
            refine take_lit (i := 8) (v := undef) rfl (by kernel_rfl) (by kernel_rfl) (by kernel_rfl) (fun _ _ _ h => h) (Or.inr ⟨by kernel_rfl, rfl⟩) (by assumption) ?_
            simp only [Act.put, List.setIfInBounds_toArray, List.set_cons_zero, List.set_cons_succ]
            refine take_lit (i := 9) (v := undef) rfl (by kernel_rfl) (by kernel_rfl) (by kernel_rfl) (fun _ _ _ h => h) (Or.inr ⟨by kernel_rfl, rfl⟩) (by assumption) ?_
            simp only [Act.put, List.setIfInBounds_toArray, List.set_cons_zero, List.set_cons_succ]
            refine take_lit (i := 10) (v := undef) rfl (by kernel_rfl) (by kernel_rfl) (by kernel_rfl) (fun _ _ _ h => h) (Or.inr ⟨by kernel_rfl, rfl⟩) (by assumption) ?_
            simp only [Act.put, List.setIfInBounds_toArray, List.set_cons_zero, List.set_cons_succ]
            refine take_lit (i := 11) (v := undef) rfl (by kernel_rfl) (by kernel_rfl) (by kernel_rfl) (fun _ _ _ h => h) (Or.inr ⟨by kernel_rfl, rfl⟩) (by assumption) ?_
            simp only [Act.put, List.setIfInBounds_toArray, List.set_cons_zero, List.set_cons_succ]
            refine take_lit (i := 12) (v := undef) rfl (by kernel_rfl) (by kernel_rfl) (by kernel_rfl) (fun _ _ _ h => h) (Or.inr ⟨by kernel_rfl, rfl⟩) (by assumption) ?_
            simp only [Act.put, List.setIfInBounds_toArray, List.set_cons_zero, List.set_cons_succ]
            refine take_lit (i := 13) (v := undef) rfl (by kernel_rfl) (by kernel_rfl) (by kernel_rfl) (fun _ _ _ h => h) (Or.inr ⟨by kernel_rfl, rfl⟩) (by assumption) ?_
            simp only [Act.put, List.setIfInBounds_toArray, List.set_cons_zero, List.set_cons_succ]
            refine take_lit (i := 14) (v := undef) rfl (by kernel_rfl) (by kernel_rfl) (by kernel_rfl) (fun _ _ _ h => h) (Or.inr ⟨by kernel_rfl, rfl⟩) (by assumption) ?_
            simp only [Act.put, List.setIfInBounds_toArray, List.set_cons_zero, List.set_cons_succ]
            refine take_lit (i := 15) (v := undef) rfl (by kernel_rfl) (by kernel_rfl) (by kernel_rfl) (fun _ _ _ h => h) (Or.inr ⟨by kernel_rfl, rfl⟩) (by assumption) ?_
            simp only [Act.put, List.setIfInBounds_toArray, List.set_cons_zero, List.set_cons_succ]
            refine take_lit (i := 16) (v := ?vr5x16) rfl (by kernel_rfl) (by kernel_rfl) (by kernel_rfl) (fun _ _ _ h => h) (Or.inl ⟨by rfl, ?hyr5x16⟩) (by assumption) ?restr5x16
            case hyr5x16 => (intro wq hSw; (try dsimp only at hSw); go_simp; try with_reducible rfl)
            simp only [Act.put, List.setIfInBounds_toArray, List.set_cons_zero, List.set_cons_succ]
            refine take_lit (i := 17) (v := ?vr5x17) rfl (by kernel_rfl) (by kernel_rfl) (by kernel_rfl) (fun _ _ _ h => h) (Or.inl ⟨by rfl, ?hyr5x17⟩) (by assumption) ?restr5x17
            case hyr5x17 => (intro wq hSw; (try dsimp only at hSw); go_simp; try with_reducible rfl)
            simp only [Act.put, List.setIfInBounds_toArray, List.set_cons_zero, List.set_cons_succ]
            refine wpAnyH_done (by kernel_rfl) ?_ _
            have HD2 : Hid (m = selN (fun i => wantsS p S i x) (k + 1) ∧ D = selD (fun i => wantsS p S i x) (k + 1)) := ⟨HD.out.1.trans (selN_no (q := (fun i => wantsS p S i x)) HU.out).symm, HD.out.2.trans (selD_no (q := (fun i => wantsS p S i x)) HU.out).symm⟩
            have M3 := T5.out.1
            go_wp2_with fail
            go_roundw
            case rel => exact ⟨k + 1, m, va, vc, D, by omega, by omega, by go_num, rfl, HD2, M3⟩
            case measure => simp [intOf]; omega
          | true =>
            cases uk with
            | false =>
              have HU : Hid (wantsS p S k x = false) := HUU.out
              refine wp_region_held_drew (S := (fun wx : World => wx.cell? ⟨yq, 1, none⟩ = some (.slice la (p.Y k).nl lc) ∧ wx.cell? ⟨w.heap.size, 0, none⟩ = some (.int .i64 p.sec) ∧ wx.cell? ⟨w.heap.size, 1, none⟩ = some (.slice (some ⟨wb, 0, none⟩) p.nw p.nw) ∧ wx.cell? ⟨w.heap.size, 2, none⟩ = some (.slice (some ⟨yb, 0, none⟩) p.ny p.ny) ∧ wx.cell? ⟨w.heap.size, 3, none⟩ = some (.slice (some ⟨bb, 0, none⟩) p.nb p.nb) ∧ wx.cell? ⟨w.heap.size, 4, none⟩ = some (.int .i64 p.hold) ∧ wx.cell? ⟨w.heap.size, 5, none⟩ = some (.slice oa no oc) ∧ wx.cell? ⟨w.heap.size, 6, none⟩ = some (.slice pa np pc) ∧ wx.cell? ⟨w.heap.size, 7, none⟩ = some (.slice ia p.ny ic) ∧ wx.cell? ⟨(w.heap.size + 1), 0, none⟩ = some (.int .i64 (x : Int)) ∧ wx.cell? ⟨wb, x, none⟩ = some (.int .i64 (p.W x)))) (by kernel_rfl) ?_ (fun hHeld => ?_)
              · exact ⟨TV.out.2.cell 1, (HST.out _ TV.out.1.1).2.1.cell 0, (HST.out _ TV.out.1.1).2.1.cell 1, (HST.out _ TV.out.1.1).2.1.cell 2, (HST.out _ TV.out.1.1).2.1.cell 3, (HST.out _ TV.out.1.1).2.1.cell 4, (HST.out _ TV.out.1.1).2.1.cell 5, (HST.out _ TV.out.1.1).2.1.cell 6, (HST.out _ TV.out.1.1).2.1.cell 7, (HST.out _ TV.out.1.1).2.2.cell 0, (HST.out _ TV.out.1.1).1.cell (p := ⟨wb, x, none⟩) HSW.out.1 |>.trans HSW.out.2⟩
              refine take_lit (i := 0) (v := ?vr6x0) rfl (by kernel_rfl) (by kernel_rfl) (by kernel_rfl) (fun _ _ _ h => h) (Or.inl ⟨by rfl, ?hyr6x0⟩) (by assumption) ?restr6x0
              case hyr6x0 => (intro wq hSw; (try dsimp only at hSw); go_simp; try with_reducible rfl)
              simp only [Act.put, List.setIfInBounds_toArray, List.set_cons_zero, List.set_cons_succ]
              refine take_lit (i := 1) (v := ?vr6x1) rfl (by kernel_rfl) (by kernel_rfl) (by kernel_rfl) (fun _ _ _ h => h) (Or.inl ⟨by rfl, ?hyr6x1⟩) (by assumption) ?restr6x1
              case hyr6x1 => (intro wq hSw; (try dsimp only at hSw); go_simp; try with_reducible rfl)
              simp only [Act.put, List.setIfInBounds_toArray, List.set_cons_zero, List.set_cons_succ]
              refine take_lit (i := 2) (v := ?vr6x2) rfl (by kernel_rfl) (by kernel_rfl) (by kernel_rfl) (fun _ _ _ h => h) (Or.inl ⟨by rfl, ?hyr6x2⟩) (by assumption) ?restr6x2
              case hyr6x2 => (intro wq hSw; (try dsimp only at hSw); go_simp; try with_reducible rfl)
              simp only [Act.put, List.setIfInBounds_toArray, List.set_cons_zero, List.set_cons_succ]
              refine take_lit (i := 3) (v := ?vr6x3) rfl (by kernel_rfl) (by kernel_rfl) (by kernel_rfl) (fun _ _ _ h => h) (Or.inl ⟨by rfl, ?hyr6x3⟩) (by assumption) ?restr6x3
              case hyr6x3 => (intro wq hSw; (try dsimp only at hSw); go_simp; try with_reducible rfl)
              simp only [Act.put, List.setIfInBounds_toArray, List.set_cons_zero, List.set_cons_succ]
              refine take_lit (i := 4) (v := ?vr6x4) rfl (by kernel_rfl) (by kernel_rfl) (by kernel_rfl) (fun _ _ _ h => h) (Or.inl ⟨by rfl, ?hyr6x4⟩) (by assumption) ?restr6x4
              case hyr6x4 => (intro wq hSw; (try dsimp only at hSw); go_simp; try with_reducible rfl)
              simp only [Act.put, List.setIfInBounds_toArray, List.set_cons_zero, List.set_cons_succ]
              refine ready_lit (i := 5) (by kernel_rfl) rfl (fun K hK => ?_)
              go_simp
              refine (contains90 la (p.Y k).nl lc (p.Y k).L (w.heap.size + 1) (x : Int) _ hnl (HL.out.mono (Nat.le_refl _) BD.out (Nat.le_refl _)) (HST.out _ TD.out.1.1).2.2.lt ((HST.out _ TD.out.1.1).2.2.cell 0)).mono ?_
              rintro e w5 ⟨he, hb5⟩
              have T5 : Hid ((Below V0.heap.size V0 w5 ∧ VOwn V0.heap.size 3 1 w5 (.slice va m vc) m (oneF D)) ∧ Box w5 yq 96 #[.slice sa (p.Y k).ns sc, .slice la (p.Y k).nl lc, .slice fa (p.Y k).nf fc, .slice oo (p.Y k).no oc2, .slice ma (p.Y k).nm mc]) := ⟨⟨TD.out.1.1.trans (hb5.mono TD.out.1.1.size), TD.out.1.2.mono (Nat.le_refl _) hb5 (Nat.le_refl _)⟩, TD.out.2.mono hb5 (Nat.le_refl _)⟩
              clear hb5
              rw [HA.out] at he
              subst he
              go_wp2_with fail
              refine hK.out _ _ ?_ (fun hHeld5 => ?_)
              · exact ⟨T5.out.2.cell 1, (HST.out _ T5.out.1.1).2.1.cell 0, (HST.out _ T5.out.1.1).2.1.cell 1, (HST.out _ T5.out.1.1).2.1.cell 2, (HST.out _ T5.out.1.1).2.1.cell 3, (HST.out _ T5.out.1.1).2.1.cell 4, (HST.out _ T5.out.1.1).2.1.cell 5, (HST.out _ T5.out.1.1).2.1.cell 6, (HST.out _ T5.out.1.1).2.1.cell 7, (HST.out _ T5.out.1.1).2.2.cell 0, (HST.out _ T5.out.1.1).1.cell (p := ⟨wb, x, none⟩) HSW.out.1 |>.trans HSW.out.2⟩
              clear hK K
              refine take_lit (i := 6) (v := ?vr6x6) rfl (by kernel_rfl) (by kernel_rfl) (by kernel_rfl) (fun _ _ _ h => h) (Or.inl ⟨by rfl, ?hyr6x6⟩) (by assumption) ?restr6x6
              case hyr6x6 => (intro wq hSw; (try dsimp only at hSw); go_simp; try with_reducible rfl)
              simp only [Act.put, List.setIfInBounds_toArray, List.set_cons_zero, List.set_cons_succ]
              refine take_lit (i := 7) (v := ?vr6x7) rfl (by kernel_rfl) (by kernel_rfl) (by kernel_rfl) (fun _ _ _ h => h) (Or.inl ⟨by rfl, ?hyr6x7⟩) (by assumption) ?restr6x7
              case hyr6x7 => (intro wq hSw; (try dsimp only at hSw); go_simp; try with_reducible rfl)
              simp only [Act.put, List.setIfInBounds_toArray, List.set_cons_zero, List.set_cons_succ]
              refine take_lit (i := 8) (v := ?vr6x8) rfl (by kernel_rfl) (by kernel_rfl) (by kernel_rfl) (fun _ _ _ h => h) (Or.inl ⟨by rfl, ?hyr6x8⟩) (by assumption) ?restr6x8
              case hyr6x8 => (intro wq hSw; (try dsimp only at hSw); go_simp; try with_reducible rfl)
              simp only [Act.put, List.setIfInBounds_toArray, List.set_cons_zero, List.set_cons_succ]
              refine take_lit (i := 9) (v := ?vr6x9) rfl (by kernel_rfl) (by kernel_rfl) (by kernel_rfl) (fun _ _ _ h => h) (Or.inl ⟨by rfl, ?hyr6x9⟩) (by assumption) ?restr6x9
              case hyr6x9 => (intro wq hSw; (try dsimp only at hSw); go_simp; try with_reducible rfl)
              simp only [Act.put, List.setIfInBounds_toArray, List.set_cons_zero, List.set_cons_succ]
              refine take_lit (i := 10) (v := ?vr6x10) rfl (by kernel_rfl) (by kernel_rfl) (by kernel_rfl) (fun _ _ _ h => h) (Or.inl ⟨by rfl, ?hyr6x10⟩) (by assumption) ?restr6x10
              case hyr6x10 => (intro wq hSw; (try dsimp only at hSw); go_simp; try with_reducible rfl)
              simp only [Act.put, List.setIfInBounds_toArray, List.set_cons_zero, List.set_cons_succ]
              refine take_lit (i := 11) (v := ?vr6x11) rfl (by kernel_rfl) (by kernel_rfl) (by kernel_rfl) (fun _ _ _ h => h) (Or.inl ⟨by rfl, ?hyr6x11⟩) (by assumption) ?restr6x11
              case hyr6x11 => (intro wq hSw; (try dsimp only at hSw); go_simp; try with_reducible rfl)
              simp only [Act.put, List.setIfInBounds_toArray, List.set_cons_zero, List.set_cons_succ]
              refine take_lit (i := 12) (v := ?vr6x12) rfl (by kernel_rfl) (by kernel_rfl) (by kernel_rfl) (fun _ _ _ h => h) (Or.inl ⟨by rfl, ?hyr6x12⟩) (by assumption) ?restr6x12
              case hyr6x12 => (intro wq hSw; (try dsimp only at hSw); go_simp; try with_reducible rfl)
              simp only [Act.put, List.setIfInBounds_toArray, List.set_cons_zero, List.set_cons_succ]
              refine take_lit (i := 13) (v := ?vr6x13) rfl (by kernel_rfl) (by kernel_rfl) (by kernel_rfl) (fun _ _ _ h => h) (Or.inl ⟨by rfl, ?hyr6x13⟩) (by assumption) ?restr6x13
              case hyr6x13 => (intro wq hSw; (try dsimp only at hSw); go_simp; try with_reducible rfl)
              simp only [Act.put, List.setIfInBounds_toArray, List.set_cons_zero, List.set_cons_succ]
              refine take_lit (i := 14) (v := ?vr6x14) rfl (by kernel_rfl) (by kernel_rfl) (by kernel_rfl) (fun _ _ _ h => h) (Or.inl ⟨by rfl, ?hyr6x14⟩) (by assumption) ?restr6x14
              case hyr6x14 => (intro wq hSw; (try dsimp only at hSw); go_simp; try with_reducible rfl)
              simp only [Act.put, List.setIfInBounds_toArray, List.set_cons_zero, List.set_cons_succ]
              refine ready_lit (i := 15) (by kernel_rfl) rfl (fun K hK => ?_)
              go_simp
              refine (keeps45 p wb yb bb lo rr oa no oc pa np pc ia ic S N k (p.W x) _ hlt H.out.1 (H.out.2.1.mono (Nat.le_refl _) (HST.out _ T5.out.1.1).1 (Nat.le_refl _)) (H.out.2.2.mono (HST.out _ T5.out.1.1).1 (Nat.le_refl _))).mono ?_
              rintro e w6 ⟨he, hb6⟩
              have T6 : Hid ((Below V0.heap.size V0 w6 ∧ VOwn V0.heap.size 3 1 w6 (.slice va m vc) m (oneF D)) ∧ Box w6 yq 96 #[.slice sa (p.Y k).ns sc, .slice la (p.Y k).nl lc, .slice fa (p.Y k).nf fc, .slice oo (p.Y k).no oc2, .slice ma (p.Y k).nm mc]) := ⟨⟨T5.out.1.1.trans (hb6.mono T5.out.1.1.size), T5.out.1.2.mono (Nat.le_refl _) hb6 (Nat.le_refl _)⟩, T5.out.2.mono hb6 (Nat.le_refl _)⟩
              clear hb6
              rw [HKB.out] at he
              subst he
              go_wp2_with fail
              refine hK.out _ _ ?_ (fun hHeld15 => ?_)
              · exact ⟨T6.out.2.cell 1, (HST.out _ T6.out.1.1).2.1.cell 0, (HST.out _ T6.out.1.1).2.1.cell 1, (HST.out _ T6.out.1.1).2.1.cell 2, (HST.out _ T6.out.1.1).2.1.cell 3, (HST.out _ T6.out.1.1).2.1.cell 4, (HST.out _ T6.out.1.1).2.1.cell 5, (HST.out _ T6.out.1.1).2.1.cell 6, (HST.out _ T6.out.1.1).2.1.cell 7, (HST.out _ T6.out.1.1).2.2.cell 0, (HST.out _ T6.out.1.1).1.cell (p := ⟨wb, x, none⟩) HSW.out.1 |>.trans HSW.out.2⟩
              clear hK K
              refine take_lit (i := 16) (v := ?vr6x16) rfl (by kernel_rfl) (by kernel_rfl) (by kernel_rfl) (fun _ _ _ h => h) (Or.inl ⟨by rfl, ?hyr6x16⟩) (by assumption) ?restr6x16
              case hyr6x16 => (intro wq hSw; (try dsimp only at hSw); go_simp; try with_reducible rfl)
              simp only [Act.put, List.setIfInBounds_toArray, List.set_cons_zero, List.set_cons_succ]
              refine take_lit (i := 17) (v := ?vr6x17) rfl (by kernel_rfl) (by kernel_rfl) (by kernel_rfl) (fun _ _ _ h => h) (Or.inl ⟨by rfl, ?hyr6x17⟩) (by assumption) ?restr6x17
              case hyr6x17 => (intro wq hSw; (try dsimp only at hSw); go_simp; try with_reducible rfl)
              simp only [Act.put, List.setIfInBounds_toArray, List.set_cons_zero, List.set_cons_succ]
              refine wpAnyH_done (by kernel_rfl) ?_ _
              have HD2 : Hid (m = selN (fun i => wantsS p S i x) (k + 1) ∧ D = selD (fun i => wantsS p S i x) (k + 1)) := ⟨HD.out.1.trans (selN_no (q := (fun i => wantsS p S i x)) HU.out).symm, HD.out.2.trans (selD_no (q := (fun i => wantsS p S i x)) HU.out).symm⟩
              have M3 := T6.out.1
              go_wp2_with fail
              go_roundw
              case rel => exact ⟨k + 1, m, va, vc, D, by omega, by omega, by go_num, rfl, HD2, M3⟩
              case measure => simp [intOf]; omega
            | true =>
              have HU : Hid (wantsS p S k x = true) := HUU.out
              refine wp_region_held_drew (S := (fun wx : World => wx.cell? ⟨yq, 1, none⟩ = some (.slice la (p.Y k).nl lc) ∧ wx.cell? ⟨w.heap.size, 0, none⟩ = some (.int .i64 p.sec) ∧ wx.cell? ⟨w.heap.size, 1, none⟩ = some (.slice (some ⟨wb, 0, none⟩) p.nw p.nw) ∧ wx.cell? ⟨w.heap.size, 2, none⟩ = some (.slice (some ⟨yb, 0, none⟩) p.ny p.ny) ∧ wx.cell? ⟨w.heap.size, 3, none⟩ = some (.slice (some ⟨bb, 0, none⟩) p.nb p.nb) ∧ wx.cell? ⟨w.heap.size, 4, none⟩ = some (.int .i64 p.hold) ∧ wx.cell? ⟨w.heap.size, 5, none⟩ = some (.slice oa no oc) ∧ wx.cell? ⟨w.heap.size, 6, none⟩ = some (.slice pa np pc) ∧ wx.cell? ⟨w.heap.size, 7, none⟩ = some (.slice ia p.ny ic) ∧ wx.cell? ⟨(w.heap.size + 1), 0, none⟩ = some (.int .i64 (x : Int)) ∧ wx.cell? ⟨wb, x, none⟩ = some (.int .i64 (p.W x)))) (by kernel_rfl) ?_ (fun hHeld => ?_)
              · exact ⟨TV.out.2.cell 1, (HST.out _ TV.out.1.1).2.1.cell 0, (HST.out _ TV.out.1.1).2.1.cell 1, (HST.out _ TV.out.1.1).2.1.cell 2, (HST.out _ TV.out.1.1).2.1.cell 3, (HST.out _ TV.out.1.1).2.1.cell 4, (HST.out _ TV.out.1.1).2.1.cell 5, (HST.out _ TV.out.1.1).2.1.cell 6, (HST.out _ TV.out.1.1).2.1.cell 7, (HST.out _ TV.out.1.1).2.2.cell 0, (HST.out _ TV.out.1.1).1.cell (p := ⟨wb, x, none⟩) HSW.out.1 |>.trans HSW.out.2⟩
              refine take_lit (i := 0) (v := ?vr7x0) rfl (by kernel_rfl) (by kernel_rfl) (by kernel_rfl) (fun _ _ _ h => h) (Or.inl ⟨by rfl, ?hyr7x0⟩) (by assumption) ?restr7x0
              case hyr7x0 => (intro wq hSw; (try dsimp only at hSw); go_simp; try with_reducible rfl)
              simp only [Act.put, List.setIfInBounds_toArray, List.set_cons_zero, List.set_cons_succ]
              refine take_lit (i := 1) (v := ?vr7x1) rfl (by kernel_rfl) (by kernel_rfl) (by kernel_rfl) (fun _ _ _ h => h) (Or.inl ⟨by rfl, ?hyr7x1⟩) (by assumption) ?restr7x1
              case hyr7x1 => (intro wq hSw; (try dsimp only at hSw); go_simp; try with_reducible rfl)
              simp only [Act.put, List.setIfInBounds_toArray, List.set_cons_zero, List.set_cons_succ]
              refine take_lit (i := 2) (v := ?vr7x2) rfl (by kernel_rfl) (by kernel_rfl) (by kernel_rfl) (fun _ _ _ h => h) (Or.inl ⟨by rfl, ?hyr7x2⟩) (by assumption) ?restr7x2
              case hyr7x2 => (intro wq hSw; (try dsimp only at hSw); go_simp; try with_reducible rfl)
              simp only [Act.put, List.setIfInBounds_toArray, List.set_cons_zero, List.set_cons_succ]
              refine take_lit (i := 3) (v := ?vr7x3) rfl (by kernel_rfl) (by kernel_rfl) (by kernel_rfl) (fun _ _ _ h => h) (Or.inl ⟨by rfl, ?hyr7x3⟩) (by assumption) ?restr7x3
              case hyr7x3 => (intro wq hSw; (try dsimp only at hSw); go_simp; try with_reducible rfl)
              simp only [Act.put, List.setIfInBounds_toArray, List.set_cons_zero, List.set_cons_succ]
              refine take_lit (i := 4) (v := ?vr7x4) rfl (by kernel_rfl) (by kernel_rfl) (by kernel_rfl) (fun _ _ _ h => h) (Or.inl ⟨by rfl, ?hyr7x4⟩) (by assumption) ?restr7x4
              case hyr7x4 => (intro wq hSw; (try dsimp only at hSw); go_simp; try with_reducible rfl)
              simp only [Act.put, List.setIfInBounds_toArray, List.set_cons_zero, List.set_cons_succ]
              refine ready_lit (i := 5) (by kernel_rfl) rfl (fun K hK => ?_)
              go_simp
              refine (contains90 la (p.Y k).nl lc (p.Y k).L (w.heap.size + 1) (x : Int) _ hnl (HL.out.mono (Nat.le_refl _) BD.out (Nat.le_refl _)) (HST.out _ TD.out.1.1).2.2.lt ((HST.out _ TD.out.1.1).2.2.cell 0)).mono ?_
              rintro e w5 ⟨he, hb5⟩
              have T5 : Hid ((Below V0.heap.size V0 w5 ∧ VOwn V0.heap.size 3 1 w5 (.slice va m vc) m (oneF D)) ∧ Box w5 yq 96 #[.slice sa (p.Y k).ns sc, .slice la (p.Y k).nl lc, .slice fa (p.Y k).nf fc, .slice oo (p.Y k).no oc2, .slice ma (p.Y k).nm mc]) := ⟨⟨TD.out.1.1.trans (hb5.mono TD.out.1.1.size), TD.out.1.2.mono (Nat.le_refl _) hb5 (Nat.le_refl _)⟩, TD.out.2.mono hb5 (Nat.le_refl _)⟩
              clear hb5
              rw [HA.out] at he
              subst he
              go_wp2_with fail
              refine hK.out _ _ ?_ (fun hHeld5 => ?_)
              · exact ⟨T5.out.2.cell 1, (HST.out _ T5.out.1.1).2.1.cell 0, (HST.out _ T5.out.1.1).2.1.cell 1, (HST.out _ T5.out.1.1).2.1.cell 2, (HST.out _ T5.out.1.1).2.1.cell 3, (HST.out _ T5.out.1.1).2.1.cell 4, (HST.out _ T5.out.1.1).2.1.cell 5, (HST.out _ T5.out.1.1).2.1.cell 6, (HST.out _ T5.out.1.1).2.1.cell 7, (HST.out _ T5.out.1.1).2.2.cell 0, (HST.out _ T5.out.1.1).1.cell (p := ⟨wb, x, none⟩) HSW.out.1 |>.trans HSW.out.2⟩
              clear hK K
              refine take_lit (i := 6) (v := ?vr7x6) rfl (by kernel_rfl) (by kernel_rfl) (by kernel_rfl) (fun _ _ _ h => h) (Or.inl ⟨by rfl, ?hyr7x6⟩) (by assumption) ?restr7x6
              case hyr7x6 => (intro wq hSw; (try dsimp only at hSw); go_simp; try with_reducible rfl)
              simp only [Act.put, List.setIfInBounds_toArray, List.set_cons_zero, List.set_cons_succ]
              refine take_lit (i := 7) (v := ?vr7x7) rfl (by kernel_rfl) (by kernel_rfl) (by kernel_rfl) (fun _ _ _ h => h) (Or.inl ⟨by rfl, ?hyr7x7⟩) (by assumption) ?restr7x7
              case hyr7x7 => (intro wq hSw; (try dsimp only at hSw); go_simp; try with_reducible rfl)
              simp only [Act.put, List.setIfInBounds_toArray, List.set_cons_zero, List.set_cons_succ]
              refine take_lit (i := 8) (v := ?vr7x8) rfl (by kernel_rfl) (by kernel_rfl) (by kernel_rfl) (fun _ _ _ h => h) (Or.inl ⟨by rfl, ?hyr7x8⟩) (by assumption) ?restr7x8
              case hyr7x8 => (intro wq hSw; (try dsimp only at hSw); go_simp; try with_reducible rfl)
              simp only [Act.put, List.setIfInBounds_toArray, List.set_cons_zero, List.set_cons_succ]
              refine take_lit (i := 9) (v := ?vr7x9) rfl (by kernel_rfl) (by kernel_rfl) (by kernel_rfl) (fun _ _ _ h => h) (Or.inl ⟨by rfl, ?hyr7x9⟩) (by assumption) ?restr7x9
              case hyr7x9 => (intro wq hSw; (try dsimp only at hSw); go_simp; try with_reducible rfl)
              simp only [Act.put, List.setIfInBounds_toArray, List.set_cons_zero, List.set_cons_succ]
              refine take_lit (i := 10) (v := ?vr7x10) rfl (by kernel_rfl) (by kernel_rfl) (by kernel_rfl) (fun _ _ _ h => h) (Or.inl ⟨by rfl, ?hyr7x10⟩) (by assumption) ?restr7x10
              case hyr7x10 => (intro wq hSw; (try dsimp only at hSw); go_simp; try with_reducible rfl)
              simp only [Act.put, List.setIfInBounds_toArray, List.set_cons_zero, List.set_cons_succ]
              refine take_lit (i := 11) (v := ?vr7x11) rfl (by kernel_rfl) (by kernel_rfl) (by kernel_rfl) (fun _ _ _ h => h) (Or.inl ⟨by rfl, ?hyr7x11⟩) (by assumption) ?restr7x11
              case hyr7x11 => (intro wq hSw; (try dsimp only at hSw); go_simp; try with_reducible rfl)
              simp only [Act.put, List.setIfInBounds_toArray, List.set_cons_zero, List.set_cons_succ]
              refine take_lit (i := 12) (v := ?vr7x12) rfl (by kernel_rfl) (by kernel_rfl) (by kernel_rfl) (fun _ _ _ h => h) (Or.inl ⟨by rfl, ?hyr7x12⟩) (by assumption) ?restr7x12
              case hyr7x12 => (intro wq hSw; (try dsimp only at hSw); go_simp; try with_reducible rfl)
              simp only [Act.put, List.setIfInBounds_toArray, List.set_cons_zero, List.set_cons_succ]
              refine take_lit (i := 13) (v := ?vr7x13) rfl (by kernel_rfl) (by kernel_rfl) (by kernel_rfl) (fun _ _ _ h => h) (Or.inl ⟨by rfl, ?hyr7x13⟩) (by assumption) ?restr7x13
              case hyr7x13 => (intro wq hSw; (try dsimp only at hSw); go_simp; try with_reducible rfl)
              simp only [Act.put, List.setIfInBounds_toArray, List.set_cons_zero, List.set_cons_succ]
              refine take_lit (i := 14) (v := ?vr7x14) rfl (by kernel_rfl) (by kernel_rfl) (by kernel_rfl) (fun _ _ _ h => h) (Or.inl ⟨by rfl, ?hyr7x14⟩) (by assumption) ?restr7x14
              case hyr7x14 => (intro wq hSw; (try dsimp only at hSw); go_simp; try with_reducible rfl)
              simp only [Act.put, List.setIfInBounds_toArray, List.set_cons_zero, List.set_cons_succ]
              refine ready_lit (i := 15) (by kernel_rfl) rfl (fun K hK => ?_)
              go_simp
              refine (keeps45 p wb yb bb lo rr oa no oc pa np pc ia ic S N k (p.W x) _ hlt H.out.1 (H.out.2.1.mono (Nat.le_refl _) (HST.out _ T5.out.1.1).1 (Nat.le_refl _)) (H.out.2.2.mono (HST.out _ T5.out.1.1).1 (Nat.le_refl _))).mono ?_
              rintro e w6 ⟨he, hb6⟩
              have T6 : Hid ((Below V0.heap.size V0 w6 ∧ VOwn V0.heap.size 3 1 w6 (.slice va m vc) m (oneF D)) ∧ Box w6 yq 96 #[.slice sa (p.Y k).ns sc, .slice la (p.Y k).nl lc, .slice fa (p.Y k).nf fc, .slice oo (p.Y k).no oc2, .slice ma (p.Y k).nm mc]) := ⟨⟨T5.out.1.1.trans (hb6.mono T5.out.1.1.size), T5.out.1.2.mono (Nat.le_refl _) hb6 (Nat.le_refl _)⟩, T5.out.2.mono hb6 (Nat.le_refl _)⟩
              clear hb6
              rw [HKB.out] at he
              subst he
              go_wp2_with fail
              refine hK.out _ _ ?_ (fun hHeld15 => ?_)
              · exact ⟨T6.out.2.cell 1, (HST.out _ T6.out.1.1).2.1.cell 0, (HST.out _ T6.out.1.1).2.1.cell 1, (HST.out _ T6.out.1.1).2.1.cell 2, (HST.out _ T6.out.1.1).2.1.cell 3, (HST.out _ T6.out.1.1).2.1.cell 4, (HST.out _ T6.out.1.1).2.1.cell 5, (HST.out _ T6.out.1.1).2.1.cell 6, (HST.out _ T6.out.1.1).2.1.cell 7, (HST.out _ T6.out.1.1).2.2.cell 0, (HST.out _ T6.out.1.1).1.cell (p := ⟨wb, x, none⟩) HSW.out.1 |>.trans HSW.out.2⟩
              clear hK K
              refine take_lit (i := 16) (v := ?vr7x16) rfl (by kernel_rfl) (by kernel_rfl) (by kernel_rfl) (fun _ _ _ h => h) (Or.inl ⟨by rfl, ?hyr7x16⟩) (by assumption) ?restr7x16
              case hyr7x16 => (intro wq hSw; (try dsimp only at hSw); go_simp; try with_reducible rfl)
              simp only [Act.put, List.setIfInBounds_toArray, List.set_cons_zero, List.set_cons_succ]
              refine take_lit (i := 17) (v := ?vr7x17) rfl (by kernel_rfl) (by kernel_rfl) (by kernel_rfl) (fun _ _ _ h => h) (Or.inl ⟨by rfl, ?hyr7x17⟩) (by assumption) ?restr7x17
              case hyr7x17 => (intro wq hSw; (try dsimp only at hSw); go_simp; try with_reducible rfl)
              simp only [Act.put, List.setIfInBounds_toArray, List.set_cons_zero, List.set_cons_succ]
              refine wpAnyH_done (by kernel_rfl) ?_ _
              have HD2 : Hid (m + 1 = selN (fun i => wantsS p S i x) (k + 1) ∧ updI D m (k : Int) = selD (fun i => wantsS p S i x) (k + 1)) := ⟨by rw [selN_yes (q := (fun i => wantsS p S i x)) HU.out, HD.out.1], by rw [selD_yes (q := (fun i => wantsS p S i x)) HU.out, HD.out.1, HD.out.2]⟩
              have hszr : V0.heap.size ≤ w6.heap.size := T6.out.1.1.size
              have M3 : Hid (Below V0.heap.size V0 w6 ∧ VOwn V0.heap.size 3 1 w6 (.slice va m vc) m (oneF D)) := T6.out.1
              have HW : Hid (VOwn V0.heap.size 3 1 w6 (.slice va m vc) m (oneF (updI D m (k : Int)))) := M3.out.2.congr fun i hi j _ => by simp [oneF, updI, hi]
              have hbx : Box (w6.alloc (.cells #[.int .i64 (k : Int)] 3)) w6.heap.size 3 #[.int .i64 (k : Int)] := Box.new _ _ _
              go_wp2_with (at_builtin; go_must (refine wpList_vapp _ rfl _ _ 22 rfl V0.heap.size 3 i0 _ 1 8 Tryz.underlying22 hi0 hz0 hs0 hb0 rfl (by decide) (.slice va m vc) m (oneF (updI D m (k : Int))) rfl (HW.out.alloc _) (fun _ _ => rfl) w6.heap.size 1 #[.int .i64 (k : Int)] rfl hbx (by simp [oneF, updI]) (by simp only [maxLen]; omega) (by omega) (by simp; omega) (Halt.mk ?_)))
              intro v2 w2 o2 g2
              obtain ⟨va2, vc2, rfl⟩ := o2.val
              have M2 : Hid (Below V0.heap.size V0 w2 ∧ VOwn V0.heap.size 3 1 w2 (.slice va2 (m + 1) vc2) (m + 1) (oneF (updI D m (k : Int)))) := ⟨(M3.out.1.alloc hszr _).grown g2 (by simp; omega) (fun j hj => (HW.out.lt hj).1), o2⟩
              clear o2 g2 HW hbx
              go_wp2_with fail
              go_roundw
              case rel => exact ⟨k + 1, m + 1, va2, vc2, _, by omega, by omega, by go_num, rfl, HD2, M2⟩
              case measure => simp [intOf]; omega
    · obtain rfl : k = p.ny := by omega
      have HF : Hid (SelR w (fun i => wantsS p S i x) p.ny (.returned (.slice va m vc)) wr) := by
        obtain ⟨e1, e2⟩ := HD.out
        refine ⟨va, vc, by rw [e1], ?_, S0.out.1.trans (M.out.1.mono S0.out.1.size)⟩
        rw [← e1, ← e2]
        exact M.out.2.keep S0.out.1.size fun _ _ => rfl
      go_wp2_with fail
      go_ret
      exact HF.out

end Go.Proofs.YtlgapgajgpilgaaGreatDoor

namespace Go.Proofs.YtlgapgajgpilgaaGreatDoor
open Go.RowKit Go.Lib

theorem inB_nat {k : Int} {n : Nat} (h : inB k 0 ((n : Int) - 1) = true) : ∃ i : Nat, k = (i : Int) ∧ i < n := by
  simp only [inB, Bool.and_eq_true, decide_eq_true_eq] at h
  exact ⟨k.toNat, by omega, by omega⟩
/-- whether there is such a frame and such a switch -/
def ptG (p : Pl) (f : Fm) (x : Int) : Bool := frameB p f && inB x 0 ((p.nw : Int) - 1)
/-- how many ways want a switch -/
def ptN (p : Pl) (f : Fm) (x : Int) : Nat := if ptG p f x then selN (fun i => wantsB p f i x.toNat) p.ny else 0
/-- which -/
def ptD (p : Pl) (f : Fm) (x : Int) : Nat → Int := selD (fun i => wantsB p f i x.toNat) p.ny
def PtR (w : World) (p : Pl) (f : Fm) (x : Int) (e : Ending) (w' : World) : Prop :=
  ∃ va vc, e = .returned (.slice va (ptN p f x) vc) ∧ VOwn w.heap.size 3 1 w' (.slice va (ptN p f x) vc) (ptN p f x) (oneF (ptD p f x)) ∧ Below w.heap.size w w'
theorem ptN_le {p : Pl} (f : Fm) (x : Int) : ptN p f x ≤ p.ny := by
  unfold ptN
  split
  · exact selN_le _ _
  · exact Nat.zero_le _
theorem PtR.no {w w' : World} {p : Pl} {f : Fm} {x : Int} (h : ptG p f x = false) (hb : Below w.heap.size w w') : PtR w p f x (.returned (.slice none 0 0)) w' := by
  have e : ptN p f x = 0 := by rw [ptN, h]; rfl
  exact ⟨none, 0, by rw [e], by rw [e]; exact VOwn.nil _ _ _ _ _, hb⟩
theorem sel_congr {q r : Nat → Bool} : ∀ {n : Nat}, (∀ i, i < n → q i = r i) → selN q n = selN r n ∧ selD q n = selD r n
  | 0, _ => ⟨rfl, rfl⟩
  | n + 1, h => by
    obtain ⟨h1, h2⟩ := sel_congr (n := n) fun i hi => h i (by omega)
    have h3 := h n (by omega)
    simp only [selN, selD, h3, h1, h2]
    exact ⟨trivial, trivial⟩
theorem PtR.of_sel {w w0 w' : World} {p : Pl} {f : Fm} {q : Nat → Bool} {x : Nat} {e : Ending} (hg : ptG p f (x : Int) = true) (hq : ∀ i, i < p.ny → q i = wantsB p f i x) (h : SelR w0 q p.ny e w') (hb : Below w.heap.size w w0) : PtR w p f (x : Int) e w' := by
  obtain ⟨va, vc, e1, h1, h2⟩ := h
  obtain ⟨c1, c2⟩ := sel_congr hq
  have e2 : ptN p f (x : Int) = selN q p.ny := by rw [ptN, hg, if_pos rfl, c1]; rfl
  have e3 : ptD p f (x : Int) = selD q p.ny := by rw [ptD, c2]; rfl
  exact ⟨va, vc, by rw [e1, e2], by rw [e2, e3]; exact h1.keep hb.size fun _ _ => rfl, hb.trans (h2.mono hb.size)⟩
set_option maxRecDepth 100000 in
set_option maxHeartbeats 8000000 in
theorem point15 (p : Pl) (f : Fm) (wa ya ba : Option Addr) (wc yc bc : Nat) (ob oo pb po : Nat) (ha : Option Addr) (oc pc hc : Nat) (x : Int) (w : World) (hs : p.small) (hfs : f.small) (h : PlIn 0 w p wa ya ba) (hf : FmIn 0 w f (some ⟨ob, oo, none⟩) (some ⟨pb, po, none⟩) ha) :
    Calls Tryz.prog 15 #[.agg #[.int .i64 p.sec, .slice wa p.nw wc, .slice ya p.ny yc, .slice ba p.nb bc, .int .i64 p.hold], .agg #[.bool f.ok, .slice (some ⟨ob, oo, none⟩) f.no oc, .slice (some ⟨pb, po, none⟩) f.np pc, .slice ha f.nh hc], .int .i64 x] w fun e w' => PtR w p f x e w' := by
  have H : Hid (PlIn 0 w p wa ya ba ∧ FmIn 0 w f (some ⟨ob, oo, none⟩) (some ⟨pb, po, none⟩) ha ∧ p.small ∧ f.small) := ⟨h, hf, hs, hfs⟩
  have S0 : Hid (Below w.heap.size w ((w.alloc (.cells #[.int .i64 p.sec, .slice wa p.nw wc, .slice ya p.ny yc, .slice ba p.nb bc, .int .i64 p.hold] 37)).alloc (.cells #[.bool f.ok, .slice (some ⟨ob, oo, none⟩) f.no oc, .slice (some ⟨pb, po, none⟩) f.np pc, .slice ha f.nh hc] 42)) ∧ Box ((w.alloc (.cells #[.int .i64 p.sec, .slice wa p.nw wc, .slice ya p.ny yc, .slice ba p.nb bc, .int .i64 p.hold] 37)).alloc (.cells #[.bool f.ok, .slice (some ⟨ob, oo, none⟩) f.no oc, .slice (some ⟨pb, po, none⟩) f.np pc, .slice ha f.nh hc] 42)) w.heap.size 37 #[.int .i64 p.sec, .slice wa p.nw wc, .slice ya p.ny yc, .slice ba p.nb bc, .int .i64 p.hold] ∧ Box ((w.alloc (.cells #[.int .i64 p.sec, .slice wa p.nw wc, .slice ya p.ny yc, .slice ba p.nb bc, .int .i64 p.hold] 37)).alloc (.cells #[.bool f.ok, .slice (some ⟨ob, oo, none⟩) f.no oc, .slice (some ⟨pb, po, none⟩) f.np pc, .slice ha f.nh hc] 42)) (w.heap.size + 1) 42 #[.bool f.ok, .slice (some ⟨ob, oo, none⟩) f.no oc, .slice (some ⟨pb, po, none⟩) f.np pc, .slice ha f.nh hc]) := ⟨bel2 _ _ _, (Box.new _ _ _).alloc _, by have := Box.new (w.alloc (.cells #[.int .i64 p.sec, .slice wa p.nw wc, .slice ya p.ny yc, .slice ba p.nb bc, .int .i64 p.hold] 37)) 42 #[.bool f.ok, .slice (some ⟨ob, oo, none⟩) f.no oc, .slice (some ⟨pb, po, none⟩) f.np pc, .slice ha f.nh hc]; simpa using this⟩
  have hnw : p.nw ≤ 1048576 := hs.1
  clear h hf hs hfs
  go_enter Tryz.func15, Tryz.ntmps15
  go_wp2_with fail
  generalize ((w.alloc (.cells #[.int .i64 p.sec, .slice wa p.nw wc, .slice ya p.ny yc, .slice ba p.nb bc, .int .i64 p.hold] 37)).alloc (.cells #[.bool f.ok, .slice (some ⟨ob, oo, none⟩) f.no oc, .slice (some ⟨pb, po, none⟩) f.np pc, .slice ha f.nh hc] 42)) = V0 at S0 ⊢
  refine (frame8 p f wa ya ba wc yc bc ob oo pb po ha oc pc hc V0 H.out.2.2.1 H.out.2.2.2 (H.out.1.mono (Nat.le_refl _) S0.out.1 (Nat.le_refl _)) (H.out.2.1.mono (Nat.le_refl _) S0.out.1 (Nat.le_refl _))).mono ?_
  rintro e w1 ⟨he, hb1⟩
  have S1 : Hid (Below w.heap.size w w1 ∧ Box w1 w.heap.size 37 #[.int .i64 p.sec, .slice wa p.nw wc, .slice ya p.ny yc, .slice ba p.nb bc, .int .i64 p.hold] ∧ Box w1 (w.heap.size + 1) 42 #[.bool f.ok, .slice (some ⟨ob, oo, none⟩) f.no oc, .slice (some ⟨pb, po, none⟩) f.np pc, .slice ha f.nh hc]) := ⟨S0.out.1.trans (hb1.mono S0.out.1.size), S0.out.2.1.mono hb1 (Nat.le_refl _), S0.out.2.2.mono hb1 (Nat.le_refl _)⟩
  clear hb1 S0
  obtain ⟨g, HG⟩ : ∃ g, Hid (frameB p f = g) := ⟨_, rfl⟩
  rw [HG.out] at he
  subst he
  cases g with
  | false =>
    have HE : Hid (PtR w p f x (.returned (.slice none 0 0)) w1) := PtR.no (by rw [ptG, HG.out]; rfl) S1.out.1
    go_wp2_with fail
    go_ret
    exact HE.out
  | true =>
    have a1 : w1.cell? ⟨w.heap.size, 1, none⟩ = some (.slice wa p.nw wc) := S1.out.2.1.cell 1
    go_wp2_with fail
    clear a1
    refine (in24 x 0 ((p.nw : Int) - 1) _).mono ?_
    rintro e w2 ⟨he, hw⟩
    have hw := hw.symm
    subst hw
    obtain ⟨q, HQ⟩ : ∃ q, Hid (inB x 0 ((p.nw : Int) - 1) = q) := ⟨_, rfl⟩
    rw [HQ.out] at he
    subst he
    cases q with
    | false =>
      have HE : Hid (PtR w p f x (.returned (.slice none 0 0)) w1) := PtR.no (by rw [ptG, HG.out, HQ.out]; rfl) S1.out.1
      go_wp2_with fail
      go_ret
      exact HE.out
    | true =>
      obtain ⟨i, rfl, hlt⟩ := inB_nat HQ.out
      have a0 : w1.cell? ⟨w.heap.size, 0, none⟩ = some (.int .i64 p.sec) := S1.out.2.1.cell 0
      have a1 : w1.cell? ⟨w.heap.size, 1, none⟩ = some (.slice wa p.nw wc) := S1.out.2.1.cell 1
      have a2 : w1.cell? ⟨w.heap.size, 2, none⟩ = some (.slice ya p.ny yc) := S1.out.2.1.cell 2
      have a3 : w1.cell? ⟨w.heap.size, 3, none⟩ = some (.slice ba p.nb bc) := S1.out.2.1.cell 3
      have a4 : w1.cell? ⟨w.heap.size, 4, none⟩ = some (.int .i64 p.hold) := S1.out.2.1.cell 4
      have b0 : w1.cell? ⟨(w.heap.size + 1), 0, none⟩ = some (.bool f.ok) := S1.out.2.2.cell 0
      have b1 : w1.cell? ⟨(w.heap.size + 1), 1, none⟩ = some (.slice (some ⟨ob, oo, none⟩) f.no oc) := S1.out.2.2.cell 1
      have b2 : w1.cell? ⟨(w.heap.size + 1), 2, none⟩ = some (.slice (some ⟨pb, po, none⟩) f.np pc) := S1.out.2.2.cell 2
      have b3 : w1.cell? ⟨(w.heap.size + 1), 3, none⟩ = some (.slice ha f.nh hc) := S1.out.2.2.cell 3
      go_wp2_with fail
      clear a0 a1 a2 a3 a4 b0 b1 b2 b3
      refine (point51 p f wa ya ba (some ⟨ob, oo, none⟩) (some ⟨pb, po, none⟩) ha wc yc bc oc pc hc i w1 H.out.2.2.1 H.out.2.2.2.2.2.1 (frame_in HG.out).2.1 (frame_in HG.out).1 hlt (H.out.1.mono (Nat.le_refl _) S1.out.1 (Nat.le_refl _)) (H.out.2.1.h.mono (Nat.le_refl _) S1.out.1 (Nat.le_refl _))).mono ?_
      intro e w3 hsel
      have HE : Hid (PtR w p f (i : Int) e w3) := PtR.of_sel (by rw [ptG, HG.out, HQ.out]; rfl) (fun _ _ => rfl) hsel S1.out.1
      obtain ⟨va, vc, rfl, _, _⟩ := hsel
      go_wp2_with fail
      go_ret
      exact HE.out
set_option maxRecDepth 100000 in
set_option maxHeartbeats 8000000 in
theorem point16 (p : Pl) (f : Fm) (wb yb bb : Nat) (lo rr : Nat → Nat) (ob pb hb : Nat) (r : Nat → Nat) (et : TypeId) (ev : Value) (x : Int) (w : World) (hs : p.small) (hfs : f.small) (hP : PlOwn 0 w p wb yb bb lo rr) (hF : FmOwn 0 w f (.slice (some ⟨ob, 0, none⟩) f.no f.no) (.slice (some ⟨pb, 0, none⟩) f.np f.np) (.slice (some ⟨hb, 0, none⟩) f.nh f.nh) r) (he : w.cell? ⟨0, 0, none⟩ = some (.iface et ev)) (h0 : 0 < w.heap.size) :
    Calls Tryz.prog 16 #[.agg #[.int .i64 p.sec, .slice (some ⟨wb, 0, none⟩) p.nw p.nw, .slice (some ⟨yb, 0, none⟩) p.ny p.ny, .slice (some ⟨bb, 0, none⟩) p.nb p.nb, .int .i64 p.hold], .agg #[.bool f.ok, .slice (some ⟨ob, 0, none⟩) f.no f.no, .slice (some ⟨pb, 0, none⟩) f.np f.np, .slice (some ⟨hb, 0, none⟩) f.nh f.nh], .int .i64 x] w fun e w' => PtR w p f x e w' := by
  have H : Hid (PlOwn 0 w p wb yb bb lo rr ∧ FmOwn 0 w f (.slice (some ⟨ob, 0, none⟩) f.no f.no) (.slice (some ⟨pb, 0, none⟩) f.np f.np) (.slice (some ⟨hb, 0, none⟩) f.nh f.nh) r ∧ w.cell? ⟨0, 0, none⟩ = some (.iface et ev) ∧ 0 < w.heap.size ∧ p.small ∧ f.small) := ⟨hP, hF, he, h0, hs, hfs⟩
  have S0 : Hid (Below w.heap.size w ((w.alloc (.cells #[.int .i64 p.sec, .slice (some ⟨wb, 0, none⟩) p.nw p.nw, .slice (some ⟨yb, 0, none⟩) p.ny p.ny, .slice (some ⟨bb, 0, none⟩) p.nb p.nb, .int .i64 p.hold] 37)).alloc (.cells #[.bool f.ok, .slice (some ⟨ob, 0, none⟩) f.no f.no, .slice (some ⟨pb, 0, none⟩) f.np f.np, .slice (some ⟨hb, 0, none⟩) f.nh f.nh] 42)) ∧ Box ((w.alloc (.cells #[.int .i64 p.sec, .slice (some ⟨wb, 0, none⟩) p.nw p.nw, .slice (some ⟨yb, 0, none⟩) p.ny p.ny, .slice (some ⟨bb, 0, none⟩) p.nb p.nb, .int .i64 p.hold] 37)).alloc (.cells #[.bool f.ok, .slice (some ⟨ob, 0, none⟩) f.no f.no, .slice (some ⟨pb, 0, none⟩) f.np f.np, .slice (some ⟨hb, 0, none⟩) f.nh f.nh] 42)) w.heap.size 37 #[.int .i64 p.sec, .slice (some ⟨wb, 0, none⟩) p.nw p.nw, .slice (some ⟨yb, 0, none⟩) p.ny p.ny, .slice (some ⟨bb, 0, none⟩) p.nb p.nb, .int .i64 p.hold]) := ⟨bel2 _ _ _, (Box.new _ _ _).alloc _⟩
  have hnw : p.nw ≤ 1048576 := hs.1
  clear hP hF he h0 hs hfs
  go_enter Tryz.func16, Tryz.ntmps16
  go_wp2_with fail
  generalize ((w.alloc (.cells #[.int .i64 p.sec, .slice (some ⟨wb, 0, none⟩) p.nw p.nw, .slice (some ⟨yb, 0, none⟩) p.ny p.ny, .slice (some ⟨bb, 0, none⟩) p.nb p.nb, .int .i64 p.hold] 37)).alloc (.cells #[.bool f.ok, .slice (some ⟨ob, 0, none⟩) f.no f.no, .slice (some ⟨pb, 0, none⟩) f.np f.np, .slice (some ⟨hb, 0, none⟩) f.nh f.nh] 42)) = V0 at S0 ⊢
  refine (desk42 p f wb yb bb lo rr ob pb hb r et ev V0 H.out.2.2.2.2.1 H.out.2.2.2.2.2 (H.out.1.mono (Nat.le_refl _) S0.out.1 (Nat.le_refl _)) (H.out.2.1.mono (Nat.le_refl _) S0.out.1 (Nat.le_refl _)) (cell_keep S0.out.1 H.out.2.2.2.1 H.out.2.2.1) (Nat.lt_of_lt_of_le H.out.2.2.2.1 S0.out.1.size)).mono ?_
  rintro e w1 ⟨hb1, hc⟩
  have HB : Hid (Below w.heap.size w w1 ∧ Box w1 w.heap.size 37 #[.int .i64 p.sec, .slice (some ⟨wb, 0, none⟩) p.nw p.nw, .slice (some ⟨yb, 0, none⟩) p.ny p.ny, .slice (some ⟨bb, 0, none⟩) p.nb p.nb, .int .i64 p.hold]) := ⟨S0.out.1.trans (hb1.mono S0.out.1.size), S0.out.2.mono hb1 (Nat.le_refl _)⟩
  clear hb1 S0
  rcases hc with ⟨hf, rfl⟩ | ⟨hf, ia, ic, v, rfl, hwl⟩
  · have HX : Hid (frameB p f = false) := hf
    clear hf
    go_wp2_with fail
    go_ret
    exact PtR.no (by rw [ptG, HX.out]; rfl) (HB.out.1.alloc HB.out.1.size _)
  · have HX : Hid (frameB p f = true) := hf
    clear hf
    have HW0 := hwl.at
    clear hwl
    rw [(frame_in HX.out).2.1] at HW0 ⊢
    have T : Hid (Below w.heap.size w (w1.alloc (.cells #[.int .i64 p.sec, .slice (some ⟨wb, 0, none⟩) p.nw p.nw, .slice (some ⟨yb, 0, none⟩) p.ny p.ny, .slice (some ⟨bb, 0, none⟩) p.nb p.nb, .int .i64 p.hold, .slice (some ⟨ob, 0, none⟩) f.no f.no, .slice (some ⟨pb, 0, none⟩) f.np f.np, .slice ia p.ny ic] 73)) ∧ Box (w1.alloc (.cells #[.int .i64 p.sec, .slice (some ⟨wb, 0, none⟩) p.nw p.nw, .slice (some ⟨yb, 0, none⟩) p.ny p.ny, .slice (some ⟨bb, 0, none⟩) p.nb p.nb, .int .i64 p.hold, .slice (some ⟨ob, 0, none⟩) f.no f.no, .slice (some ⟨pb, 0, none⟩) f.np f.np, .slice ia p.ny ic] 73)) w.heap.size 37 #[.int .i64 p.sec, .slice (some ⟨wb, 0, none⟩) p.nw p.nw, .slice (some ⟨yb, 0, none⟩) p.ny p.ny, .slice (some ⟨bb, 0, none⟩) p.nb p.nb, .int .i64 p.hold] ∧ Box (w1.alloc (.cells #[.int .i64 p.sec, .slice (some ⟨wb, 0, none⟩) p.nw p.nw, .slice (some ⟨yb, 0, none⟩) p.ny p.ny, .slice (some ⟨bb, 0, none⟩) p.nb p.nb, .int .i64 p.hold, .slice (some ⟨ob, 0, none⟩) f.no f.no, .slice (some ⟨pb, 0, none⟩) f.np f.np, .slice ia p.ny ic] 73)) w1.heap.size 73 #[.int .i64 p.sec, .slice (some ⟨wb, 0, none⟩) p.nw p.nw, .slice (some ⟨yb, 0, none⟩) p.ny p.ny, .slice (some ⟨bb, 0, none⟩) p.nb p.nb, .int .i64 p.hold, .slice (some ⟨ob, 0, none⟩) f.no f.no, .slice (some ⟨pb, 0, none⟩) f.np f.np, .slice ia p.ny ic] ∧ WlAt (w1.alloc (.cells #[.int .i64 p.sec, .slice (some ⟨wb, 0, none⟩) p.nw p.nw, .slice (some ⟨yb, 0, none⟩) p.ny p.ny, .slice (some ⟨bb, 0, none⟩) p.nb p.nb, .int .i64 p.hold, .slice (some ⟨ob, 0, none⟩) f.no f.no, .slice (some ⟨pb, 0, none⟩) f.np f.np, .slice ia p.ny ic] 73)) ia p.ny (fun i => (p.Y i).ns) (stS p f)) := ⟨HB.out.1.alloc HB.out.1.size _, HB.out.2.alloc _, Box.new _ _ _, HW0.mono (bel1 _ _) (Nat.le_refl _)⟩
    clear HW0
    have a1 : (w1.alloc (.cells #[.int .i64 p.sec, .slice (some ⟨wb, 0, none⟩) p.nw p.nw, .slice (some ⟨yb, 0, none⟩) p.ny p.ny, .slice (some ⟨bb, 0, none⟩) p.nb p.nb, .int .i64 p.hold, .slice (some ⟨ob, 0, none⟩) f.no f.no, .slice (some ⟨pb, 0, none⟩) f.np f.np, .slice ia p.ny ic] 73)).cell? ⟨w.heap.size, 1, none⟩ = some (.slice (some ⟨wb, 0, none⟩) p.nw p.nw) := T.out.2.1.cell 1
    go_wp2_with fail
    clear a1
    generalize w1.alloc (.cells #[.int .i64 p.sec, .slice (some ⟨wb, 0, none⟩) p.nw p.nw, .slice (some ⟨yb, 0, none⟩) p.ny p.ny, .slice (some ⟨bb, 0, none⟩) p.nb p.nb, .int .i64 p.hold, .slice (some ⟨ob, 0, none⟩) f.no f.no, .slice (some ⟨pb, 0, none⟩) f.np f.np, .slice ia p.ny ic] 73) = V1 at T ⊢
    generalize w1.heap.size = dq at T ⊢
    refine (place68 _ p.nw p.nw x V1 hnw).mono ?_
    rintro e w2 ⟨he, hw⟩
    have hw := hw.symm
    subst hw
    obtain ⟨q, HQ⟩ : ∃ q, Hid (inB x 0 ((p.nw : Int) - 1) = q) := ⟨_, rfl⟩
    rw [HQ.out] at he
    subst he
    cases q with
    | false =>
      have HE : Hid (PtR w p f x (.returned (.slice none 0 0)) V1) := PtR.no (by rw [ptG, HX.out, HQ.out]; rfl) T.out.1
      go_wp2_with fail
      go_ret
      exact HE.out
    | true =>
      obtain ⟨i, rfl, hlt⟩ := inB_nat HQ.out
      have d0 : V1.cell? ⟨dq, 0, none⟩ = some (.int .i64 p.sec) := T.out.2.2.1.cell 0
      have d1 : V1.cell? ⟨dq, 1, none⟩ = some (.slice (some ⟨wb, 0, none⟩) p.nw p.nw) := T.out.2.2.1.cell 1
      have d2 : V1.cell? ⟨dq, 2, none⟩ = some (.slice (some ⟨yb, 0, none⟩) p.ny p.ny) := T.out.2.2.1.cell 2
      have d3 : V1.cell? ⟨dq, 3, none⟩ = some (.slice (some ⟨bb, 0, none⟩) p.nb p.nb) := T.out.2.2.1.cell 3
      have d4 : V1.cell? ⟨dq, 4, none⟩ = some (.int .i64 p.hold) := T.out.2.2.1.cell 4
      have d5 : V1.cell? ⟨dq, 5, none⟩ = some (.slice (some ⟨ob, 0, none⟩) f.no f.no) := T.out.2.2.1.cell 5
      have d6 : V1.cell? ⟨dq, 6, none⟩ = some (.slice (some ⟨pb, 0, none⟩) f.np f.np) := T.out.2.2.1.cell 6
      have d7 : V1.cell? ⟨dq, 7, none⟩ = some (.slice ia p.ny ic) := T.out.2.2.1.cell 7
      go_wp2_with fail
      clear d0 d1 d2 d3 d4 d5 d6 d7
      refine (wanting53 p wb yb bb lo rr (some ⟨ob, 0, none⟩) f.no f.no (some ⟨pb, 0, none⟩) f.np f.np ia ic (stS p f) (fun i => (p.Y i).ns) i V1 hlt H.out.2.2.2.2.1 (H.out.1.mono (Nat.le_refl _) T.out.1 (Nat.le_refl _)) T.out.2.2.2).mono ?_
      intro e w3 hsel
      have HE : Hid (PtR w p f (i : Int) e w3) := PtR.of_sel (by rw [ptG, HX.out, HQ.out]; rfl) (fun k hk => wants_same HX.out hk i) hsel T.out.1
      obtain ⟨va, vc, rfl, _, _⟩ := hsel
      go_wp2_with fail
      go_ret
      exact HE.out

end Go.Proofs.YtlgapgajgpilgaaGreatDoor
