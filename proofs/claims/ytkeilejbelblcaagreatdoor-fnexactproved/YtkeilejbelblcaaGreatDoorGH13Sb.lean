import Derived.Test.YtkeilejbelblcaaGreatDoorH12
import Derived.Test.YtkeilejbelblcaaGreatDoorGSaH5
namespace Go.Proofs.YtkeilejbelblcaaGreatDoor
open Go.RowKit

/-- a copy, laid down in a variable, is a frame in memory of one's own -/
theorem FMem.of_copy {B : Nat} {w : World} {ok : Bool} {oa : Option Addr} {no oc : Nat} {O : Nat → Bool} {pa : Option Addr} {np pc : Nat} {P : Nat → Nat → Int} {hb nh hc : Nat} {Y : Nat → Hl} {r rc : Nat → Nat} (hB : B ≤ w.heap.size)
    (ho : VOwn B 4 1 w (.slice oa no oc) no (boolF O)) (hp : VOwn B 69 2 w (.slice pa np pc) np (intF P)) (hh : HsG B w (.slice (some ⟨hb, 0, none⟩) nh hc) nh Y r rc) (hne : ∀ g, (Value.slice oa no oc).ownBlock = some g → ∀ i, i < nh → r i ≠ g) :
    FMem B (w.alloc (.cells #[.bool ok, .slice oa no oc, .slice pa np pc, .slice (some ⟨hb, 0, none⟩) nh hc] 42)) w.heap.size hb ok oa no oc O pa np pc P nh hc Y r rc := by
  have b1 := bel1 w (.cells #[.bool ok, .slice oa no oc, .slice pa np pc, .slice (some ⟨hb, 0, none⟩) nh hc] 42)
  have hl : hb < w.heap.size := (hh.own.lt rfl).2
  refine ⟨Box.new _ _ _, ho.vs.mono (Nat.zero_le _) b1 (Nat.le_refl _), hp.vs.mono (Nat.zero_le _) b1 (Nat.le_refl _), fun i hi => (hh.hat hi).mono b1, hh.inj, by omega, fun i hi => ?_, fun i hi _ b off e => ?_, fun i hi _ b off e => ?_, hB, (hh.own.lt rfl).1, fun i hi => ((hh.row i hi).lt rfl).1⟩
  · exact Ne.symm (Nat.ne_of_lt ((hh.row i hi).lt rfl).2)
  · subst e
    have hbk : off = 0 := by
      rcases ho with ⟨e1, _⟩ | ⟨g, cp, cur, e1, _⟩
      · cases e1
      · simp only [Value.slice.injEq, Option.some.injEq, Addr.mk.injEq, and_true, true_and] at e1
        exact e1.1.2
    subst hbk
    refine ⟨fun e2 => ?_, fun e2 => hne b rfl i hi e2.symm⟩
    subst e2
    exact ho.apart hh.own (by decide) rfl rfl
  · subst e
    have hbk : off = 0 := by
      rcases hp with ⟨e1, _⟩ | ⟨g, cp, cur, e1, _⟩
      · cases e1
      · simp only [Value.slice.injEq, Option.some.injEq, Addr.mk.injEq, and_true, true_and] at e1
        exact e1.1.2
    subst hbk
    refine ⟨fun e2 => ?_, fun e2 => ?_⟩
    · subst e2
      exact hp.apart hh.own (by decide) rfl rfl
    · subst e2
      exact hp.apart (hh.row i hi) (by decide) rfl rfl
/-- the lists of Held, as a reader finds them -/
theorem FMem.hs {M : Nat} {w : World} {fb hb : Nat} {ok : Bool} {oa : Option Addr} {no oc : Nat} {O : Nat → Bool} {pa : Option Addr} {np pc : Nat} {P : Nat → Nat → Int} {nh hc : Nat} {Y : Nat → Hl} {r rc : Nat → Nat}
    (x : FMem M w fb hb ok oa no oc O pa np pc P nh hc Y r rc) : HsAt 0 w (some ⟨hb, 0, none⟩) nh Y := by
  intro h0
  refine ⟨hb, 0, rfl, Nat.zero_le _, (x.h 0 h0).lt, fun i hi => ?_⟩
  have h := x.h i hi
  refine ⟨some ⟨r i, 0, none⟩, rc i, ?_, ?_, ?_, ?_, ?_, fun _ => ⟨r i, 0, rfl, Nat.zero_le _, h.rl, fun k hk j hj => ?_⟩⟩
  · rw [Nat.zero_add]; exact h.c0
  · rw [Nat.zero_add]; exact h.c1
  · rw [Nat.zero_add]; exact h.c2
  · rw [Nat.zero_add]; exact h.c3
  · rw [Nat.zero_add]; exact h.c4
  · obtain rfl : j = 0 := by omega
    rw [Nat.zero_add, Nat.mul_one, Nat.add_zero]
    exact (h.row k hk).1

end Go.Proofs.YtkeilejbelblcaaGreatDoor

namespace Go.Proofs.YtkeilejbelblcaaGreatDoor
open Go.RowKit

set_option maxRecDepth 100000 in
set_option maxHeartbeats 4000000 in
theorem lies55 (p : Pl) (wa ya ba : Option Addr) (wc yc bc : Nat) (a : Option Addr) (n cap : Nat) (L : Nat → Nat → Int) (w : World) (hn : n ≤ 1048576) (hw : p.nw ≤ 1048576) (hL : VsAt 2 0 w a n (intF L)) :
    Calls Tryz.prog 124 #[.agg #[.int .i64 p.sec, .slice wa p.nw wc, .slice ya p.ny yc, .slice ba p.nb bc, .int .i64 p.hold], .slice a n cap] w fun e w' => e = .returned (.bool (liesF L n p.nw)) ∧ Below w.heap.size w w' := by
  have HL : Hid (VsAt 2 0 w a n (intF L)) := hL
  clear hL
  go_enter Tryz.func124, Tryz.ntmps124
  go_wp2_with fail
  go_loopw [10] (fun i wr => ∃ q : Nat, q ≤ n ∧ i = .int .i64 q ∧ Hid (∀ i, i < q → tuF L p.nw i = true) ∧ Hid (Box wr w.heap.size 37 #[.int .i64 p.sec, .slice wa p.nw wc, .slice ya p.ny yc, .slice ba p.nb bc, .int .i64 p.hold]) ∧ Below w.heap.size w wr) (fun i _ => n - (intOf i).toNat)
  case atStart => exact ⟨0, Nat.zero_le _, rfl, fun i hi => absurd hi (Nat.not_lt_zero _), Box.new w 37 _, bel1 _ _⟩
  case round =>
    obtain ⟨q, hq, rfl, HQ, HX, hbel⟩ := hrel
    by_cases hlt : q < n
    · obtain ⟨b, off, rfl, _, hb, hc⟩ := (HL.out.mono (Nat.le_refl _) hbel (Nat.le_refl _)) (by omega)
      have c0 : wr.cell? ⟨b, off + q * 2, none⟩ = some (.int .i64 (L q 0)) := hc q hlt 0 (by omega)
      have c1 : wr.cell? ⟨b, off + q * 2 + 1, none⟩ = some (.int .i64 (L q 1)) := hc q hlt 1 (by omega)
      have HC : Hid (∀ r, r < n → wr.cell? ⟨b, off + r * 2, none⟩ = some (.int .i64 (L r 0))) := fun r hr => hc r hr 0 (by omega)
      have x1 : wr.cell? ⟨w.heap.size, 1, none⟩ = some (.slice wa p.nw wc) := HX.out.cell 1
      have hxl : w.heap.size < wr.heap.size := HX.out.lt
      clear hc
      have hq0 : (0 : Int) ≤ (q : Int) := by omega
      have hqn : (q : Int) < (n : Int) := by omega
      go_wp2_with fail
      have hbA : Below w.heap.size w (wr.alloc (.cells #[.int .i64 (L q 0), .int .i64 (L q 1)] 146)) := hbel.alloc hbel.size _
      refine (in24 (L q 0) 0 ((p.nw : Int) - 1) _).mono ?_
      rintro e w1 ⟨he, hw1⟩
      have hw1 := hw1.symm
      subst hw1
      cases hB : inB (L q 0) 0 ((p.nw : Int) - 1) with
      | false =>
        rw [hB] at he
        subst he
        go_wp2_with fail
        go_ret
        exact ⟨by rw [liesF, allB_no hlt (by simp [tuF, hB])]; rfl, hbA⟩
      | true =>
        rw [hB] at he
        subst he
        go_wp2_with fail
        refine (in24 (L q 1) 1 2 _).mono ?_
        rintro e w1 ⟨he, hw1⟩
        have hw1 := hw1.symm
        subst hw1
        cases hB2 : inB (L q 1) 1 2 with
        | false =>
          rw [hB2] at he
          subst he
          go_wp2_with fail
          go_ret
          exact ⟨by rw [liesF, allB_no hlt (by simp [tuF, hB2])]; rfl, hbA⟩
        | true =>
          rw [hB2] at he
          subst he
          go_wp2_with fail
          have HX1 : Hid (Box (wr.alloc (.cells #[.int .i64 (L q 0), .int .i64 (L q 1)] 146)) wr.heap.size 146 #[.int .i64 (L q 0), .int .i64 (L q 1)]) := Box.new wr 146 _
          have HB1 : Hid (Below wr.heap.size wr (wr.alloc (.cells #[.int .i64 (L q 0), .int .i64 (L q 1)] 146))) := bel1 _ _
          generalize wr.alloc (.cells #[.int .i64 (L q 0), .int .i64 (L q 1)] 146) = W1 at HX1 HB1 hbA ⊢
          have HXp : Hid (Box W1 w.heap.size 37 _) := HX.out.mono HB1.out (Nat.le_refl _)
          have HC1 : Hid (∀ r, r < n → W1.cell? ⟨b, off + r * 2, none⟩ = some (.int .i64 (L r 0))) := fun r hr => cell_keep HB1.out hb (HC.out r hr)
          have hb1 : b < W1.heap.size := Nat.lt_of_lt_of_le hb HB1.out.size
          clear x1 c0 c1 HX HC HB1 hxl hbel hb
          generalize wr.heap.size = xb at HX1 ⊢
          go_loopw [7] (fun j wi => ∃ r : Nat, r ≤ q ∧ j = .int .i64 r ∧ Hid (∀ k, k < r → L k 0 ≠ L q 0) ∧ Hid (Below W1.heap.size W1 wi)) (fun j _ => q - (intOf j).toNat)
          case atStart => exact ⟨0, Nat.zero_le _, rfl, fun i hi => absurd hi (Nat.not_lt_zero _), Below.refl _ _⟩
          case round =>
            obtain ⟨r, hr, rfl, HR, HBI⟩ := hrel
            have hbI : Below w.heap.size w wr := hbA.trans (HBI.out.mono hbA.size)
            by_cases hrq : r < q
            · have c2 : wr.cell? ⟨b, off + r * 2, none⟩ = some (.int .i64 (L r 0)) := cell_keep HBI.out hb1 (HC1.out r (by omega))
              have x2 : wr.cell? ⟨xb, 0, none⟩ = some (.int .i64 (L q 0)) := (HX1.out.mono HBI.out (Nat.le_refl _)).cell 0
              have hr0 : (0 : Int) ≤ (r : Int) := by omega
              have hrn : (r : Int) < (n : Int) := by omega
              have hrq' : (r : Int) < (q : Int) := by omega
              by_cases he : L r 0 = L q 0
              · go_wp2_with fail
                go_quiet (fail)
                go_wp2_with fail
                go_ret
                exact ⟨by rw [liesF, allB_no hlt (by simp only [tuF, hB, hB2, Bool.true_and]; exact allB_no hrq (by simp [he]))]; rfl, below_drewN hbI _⟩
              · have HR2 : Hid (∀ k, k < r + 1 → L k 0 ≠ L q 0) := fun k hk => by
                  by_cases e : k = r
                  · subst e
                    exact he
                  · exact HR.out k (by omega)
                go_wp2_with fail
                go_quiet (fail)
                go_wp2_with fail
                go_roundw
                case rel => exact ⟨r + 1, by omega, by go_num, HR2, below_drewN HBI.out _⟩
                case measure => simp [intOf]; omega
            · obtain rfl : r = q := by omega
              have HQ2 : Hid (∀ i, i < r + 1 → tuF L p.nw i = true) := fun i hi => by
                by_cases e : i = r
                · subst e
                  simp only [tuF, hB, hB2, Bool.true_and]
                  exact allB_iff.2 fun k hk => by simpa using HR.out k hk
                · exact HQ.out i (by omega)
              have HX2 : Hid (Box wr w.heap.size 37 _) := HXp.out.mono HBI.out (Nat.le_refl _)
              go_wp2_with fail
              go_roundw
              case rel => exact ⟨r + 1, by omega, by go_num, HQ2, HX2, hbI⟩
              case measure => simp [intOf]; omega
    · obtain rfl : q = n := by omega
      have hA : allB (tuF L p.nw) q = true := allB_iff.2 HQ.out
      by_cases h30 : (q : Int) ≤ 30
      · go_wp2_with fail
        go_ret
        exact ⟨by rw [liesF, hA]; simp; omega, hbel⟩
      · go_wp2_with fail
        go_ret
        exact ⟨by rw [liesF, hA]; simp; omega, hbel⟩

end Go.Proofs.YtkeilejbelblcaaGreatDoor
