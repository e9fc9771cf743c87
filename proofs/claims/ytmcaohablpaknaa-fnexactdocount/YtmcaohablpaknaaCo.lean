import Derived.Test.YtmcaohablpaknaaCm
import Derived.Deep.RegionHeld3
namespace Go.Proofs.Ytmcaohablpaknaa
open Go.RowKit Go.ChangeShapes Go.WideShapes

/-- CountOk -/
def CoOk (sec : Int) (n : Nat) (K : Nat → Nat → Int) (ok : Bool) (ns nd : Nat) (S : Nat → Sec) (D : Nat → Bool) : Prop :=
  layOk sec n K = 0 ∧ ok = true ∧ (ns : Int) = sec ∧ nd = n ∧ ∀ i, i < ns → secOk (deadB K n D i) (S i) = true
open Classical in
noncomputable def coB (sec : Int) (n : Nat) (K : Nat → Nat → Int) (ok : Bool) (ns nd : Nat) (S : Nat → Sec) (D : Nat → Bool) : Bool := decide (CoOk sec n K ok ns nd S D)
open Classical in
theorem coB_false {sec : Int} {n : Nat} {K : Nat → Nat → Int} {ok : Bool} {ns nd : Nat} {S : Nat → Sec} {D : Nat → Bool} (h : ¬ CoOk sec n K ok ns nd S D) : coB sec n K ok ns nd S D = false := decide_eq_false h
open Classical in
theorem coB_true {sec : Int} {n : Nat} {K : Nat → Nat → Int} {ok : Bool} {ns nd : Nat} {S : Nat → Sec} {D : Nat → Bool} (h : CoOk sec n K ok ns nd S D) : coB sec n K ok ns nd S D = true := decide_eq_true h

set_option maxRecDepth 100000 in
set_option maxHeartbeats 16000000 in
theorem coS (sec : Int) (a : Option Addr) (n cap : Nat) (K : Nat → Nat → Int) (ok : Bool) (sa da : Option Addr) (ns nd sc dc : Nat) (S : Nat → Sec) (D : Nat → Bool) (w : World) (hn : n ≤ 1048576) (hns : ns ≤ 1048576) (_hnd : nd ≤ 1048576) (hE : VsAt 2 0 w a n (intF K)) (hS : VsAt 5 0 w sa ns (secF S)) (hD : VsAt 1 0 w da nd (boolF D)) :
    Calls Try.prog 35 #[.agg #[.int .i64 sec, .slice a n cap], .agg #[.bool ok, .slice sa ns sc, .slice da nd dc]] w fun e w' => e = .returned (.bool (coB sec n K ok ns nd S D)) ∧ Below w.heap.size w w' := by
  have HE0 : Hid (VsAt 2 0 w a n (intF K) ∧ VsAt 5 0 w sa ns (secF S) ∧ VsAt 1 0 w da nd (boolF D)) := ⟨hE, hS, hD⟩
  clear hE hS hD
  go_enter Try.func35, Try.ntmps35
  go_wp2_with fail
  have B0 := bel2 w (.cells #[.int .i64 sec, .slice a n cap] 29) (.cells #[.bool ok, .slice sa ns sc, .slice da nd dc] 42)
  have L0 := (Box.new w 29 #[.int .i64 sec, .slice a n cap]).alloc (.cells #[.bool ok, .slice sa ns sc, .slice da nd dc] 42)
  have A0 := Box.new (w.alloc (.cells #[.int .i64 sec, .slice a n cap] 29)) 42 #[.bool ok, .slice sa ns sc, .slice da nd dc]
  rw [show (w.alloc (.cells #[.int .i64 sec, .slice a n cap] 29)).heap.size = w.heap.size + 1 by simp] at A0
  refine (layS sec a n cap K _ hn (HE0.out.1.mono (Nat.le_refl _) B0 (Nat.le_refl _))).mono ?_
  rintro e w1 ⟨rfl, hb1⟩
  have L1 := L0.mono hb1 (Nat.le_refl _)
  have A1 := A0.mono hb1 (Nat.le_refl _)
  have B1 := B0.trans (hb1.mono B0.size)
  have l0 : w1.cell? ⟨w.heap.size, 0, none⟩ = some (.int .i64 sec) := L1.cell 0
  have l1 : w1.cell? ⟨w.heap.size, 1, none⟩ = some (.slice a n cap) := L1.cell 1
  have a0 : w1.cell? ⟨w.heap.size + 1, 0, none⟩ = some (.bool ok) := A1.cell 0
  have a1 : w1.cell? ⟨w.heap.size + 1, 1, none⟩ = some (.slice sa ns sc) := A1.cell 1
  have a2 : w1.cell? ⟨w.heap.size + 1, 2, none⟩ = some (.slice da nd dc) := A1.cell 2
  have HH : Hid (Box w1 w.heap.size 29 #[.int .i64 sec, .slice a n cap] ∧ Box w1 (w.heap.size + 1) 42 #[.bool ok, .slice sa ns sc, .slice da nd dc] ∧ Below w.heap.size w w1) := ⟨L1, A1, B1⟩
  clear L0 A0 B0 L1 A1 B1 hb1
  by_cases hok : layOk sec n K = 0
  · have hg := layGood hok
    have s1 := hg.s1
    have s2 := hg.s2
    have n120 : n ≤ 120 := hg.m
    have HOK : Hid (layOk sec n K = 0) := hok
    clear hg
    rw [hok]
    clear hok
    cases ok
    · have HR : Hid (coB sec n K false ns nd S D = false) := coB_false fun h => by have := h.2.1; cases this
      go_wp2_with fail
      go_ret
      exact ⟨by rw [HR.out]; rfl, HH.out.2.2⟩
    · by_cases e1 : (ns : Int) = sec
      · by_cases e2 : nd = n
        · subst e2
          have HE : Hid (VsAt 2 0 w a nd (intF K) ∧ VsAt 5 0 w sa ns (secF S) ∧ VsAt 1 0 w da nd (boolF D)) := HE0
          have e1' : ((ns : Int) != sec) = false := by simp [e1]
          have HE1 : Hid ((ns : Int) = sec) := e1
          have HF : Hid (∀ i, i < ns → secOk (deadB K nd D i) (S i) = false → coB sec nd K true ns nd S D = false) := fun i hi h => coB_false fun q => by have := q.2.2.2.2 i hi; rw [h] at this; cases this
          have HT : Hid ((∀ i, i < ns → secOk (deadB K nd D i) (S i) = true) → coB sec nd K true ns nd S D = true) := fun h => coB_true ⟨HOK.out, rfl, e1, rfl, h⟩
          have ns60 : ns ≤ 60 := by omega
          clear HE0 e1 hn
          go_wp2_with fail
          clear l0 l1 a0 a1 a2
          go_loopw [35] (fun i wr => ∃ k : Nat, k ≤ ns ∧ i = .int .i64 k ∧ Hid (∀ j, j < k → secOk (deadB K nd D j) (S j) = true) ∧ Hid (Box wr w.heap.size 29 #[.int .i64 sec, .slice a nd cap] ∧ Box wr (w.heap.size + 1) 42 #[.bool true, .slice sa ns sc, .slice da nd dc] ∧ Below w.heap.size w wr)) (fun i _ => ns - (intOf i).toNat)
          case atStart => exact ⟨0, Nat.zero_le _, rfl, fun j hj => absurd hj (Nat.not_lt_zero _), HH⟩
          case round =>
            obtain ⟨k, hk, rfl, hall, HHr⟩ := hrel
            by_cases hlt : k < ns
            · obtain ⟨b, off, rfl, _, hb, hc⟩ := (HE.out.2.1.mono (Nat.le_refl _) HHr.out.2.2 (Nat.le_refl _)) (by omega)
              have c0 : wr.cell? ⟨b, off + k * 5, none⟩ = some (.int .i64 (S k).told) := hc k hlt 0 (by omega)
              have c1 : wr.cell? ⟨b, off + k * 5 + 1, none⟩ = some (.int .i64 (S k).count) := hc k hlt 1 (by omega)
              have c2 : wr.cell? ⟨b, off + k * 5 + 2, none⟩ = some (.bool (S k).lost) := hc k hlt 2 (by omega)
              have c3 : wr.cell? ⟨b, off + k * 5 + 3, none⟩ = some (.bool (S k).sweep) := hc k hlt 3 (by omega)
              have c4 : wr.cell? ⟨b, off + k * 5 + 4, none⟩ = some (.int .i64 (S k).last) := hc k hlt 4 (by omega)
              have hkS : 0 ≤ (k : Int) ∧ (k : Int) ≤ sec - 1 := by have := HE1.out; omega
              have HFk : Hid (secOk (deadB K nd D k) (S k) = false → coB sec nd K true ns nd S D = false) := HF.out k hlt
              have HAk : Hid (secOk (deadB K nd D k) (S k) = true → ∀ j, j < k + 1 → secOk (deadB K nd D j) (S j) = true) := fun h j hj => by
                by_cases e : j = k
                · subst e
                  exact h
                · exact hall.out j (by omega)
              obtain ⟨x, hx⟩ : ∃ x, S k = x := ⟨_, rfl⟩
              rw [hx] at c0 c1 c2 c3 c4 HFk HAk
              clear hx hc
              obtain ⟨x0, xc, xl, xs, xa⟩ := x
              obtain ⟨d, hd⟩ : ∃ d, Hid (deadB K nd D k = d) := ⟨_, rfl⟩
              rw [hd.out] at HFk HAk
              obtain ⟨t, ht⟩ : ∃ t, Hid (toldF d ⟨x0, xc, xl, xs, xa⟩ = t) := ⟨_, rfl⟩
              have HSK : Hid (secOk d ⟨x0, xc, xl, xs, xa⟩ = (decide (-1000000 ≤ xc ∧ xc ≤ 1000000) && decide (-1 ≤ xa ∧ xa ≤ 1) && decide (x0 = t) && !((decide (xc < 0) && !xl) || (d && !xl) || (xs && decide (xc = 0) && decide (xa = -1) && !xl)))) := by
                show secOk d ⟨x0, xc, xl, xs, xa⟩ = _
                rw [← ht.out]
                rfl
              have u0 : (wr.alloc (.cells #[.int .i64 x0, .int .i64 xc, .bool xl, .bool xs, .int .i64 xa] 84)).cell? ⟨w.heap.size, 0, none⟩ = some (.int .i64 sec) := (HHr.out.1.alloc _).cell 0
              have HW : Hid (Box (wr.alloc (.cells #[.int .i64 x0, .int .i64 xc, .bool xl, .bool xs, .int .i64 xa] 84)).drew w.heap.size 29 #[.int .i64 sec, .slice a nd cap] ∧ Box (wr.alloc (.cells #[.int .i64 x0, .int .i64 xc, .bool xl, .bool xs, .int .i64 xa] 84)).drew (w.heap.size + 1) 42 #[.bool true, .slice (some ⟨b, off, none⟩) ns sc, .slice da nd dc] ∧ Box (wr.alloc (.cells #[.int .i64 x0, .int .i64 xc, .bool xl, .bool xs, .int .i64 xa] 84)).drew wr.heap.size 84 #[.int .i64 x0, .int .i64 xc, .bool xl, .bool xs, .int .i64 xa] ∧ Below w.heap.size w (wr.alloc (.cells #[.int .i64 x0, .int .i64 xc, .bool xl, .bool xs, .int .i64 xa] 84)).drew) := ⟨(HHr.out.1.alloc _).drew, (HHr.out.2.1.alloc _).drew, Box.new wr 84 _, (HHr.out.2.2.alloc (Nat.le_trans HHr.out.2.2.size (Nat.le_refl _)) _).drew⟩
              have z0 : w.heap.size < wr.heap.size := HHr.out.1.lt
              have z1 : w.heap.size + 1 < wr.heap.size := HHr.out.2.1.lt
              have l0 : wr.cell? ⟨w.heap.size, 0, none⟩ = some (.int .i64 sec) := HHr.out.1.cell 0
              have l1 : wr.cell? ⟨w.heap.size, 1, none⟩ = some (.slice a nd cap) := HHr.out.1.cell 1
              have a2 : wr.cell? ⟨w.heap.size + 1, 2, none⟩ = some (.slice da nd dc) := HHr.out.2.1.cell 2
              have HX : Hid (Below w.heap.size w (wr.alloc (.cells #[.int .i64 x0, .int .i64 xc, .bool xl, .bool xs, .int .i64 xa] 84))) := HHr.out.2.2.alloc HHr.out.2.2.size _
              clear u0
              have HTS : Hid (∀ W : World, Below w.heap.size w W → Calls Try.prog 57 #[.agg #[.int .i64 sec, .slice a nd cap], .slice da nd dc, .int .i64 k, .agg #[.int .i64 x0, .int .i64 xc, .bool xl, .bool xs, .int .i64 xa]] W fun e w' => e = .returned (.int .i64 t) ∧ Below W.heap.size W w') := fun W hW => by
                have := toldS sec a nd cap K da dc D k ⟨x0, xc, xl, xs, xa⟩ W HOK.out hkS (HE.out.1.mono (Nat.le_refl _) hW (Nat.le_refl _)) (HE.out.2.2.mono (Nat.le_refl _) hW (Nat.le_refl _))
                rw [hd.out, ht.out] at this
                exact this
              have HDS : Hid (∀ W : World, Below w.heap.size w W → Calls Try.prog 56 #[.agg #[.int .i64 sec, .slice a nd cap], .slice da nd dc, .int .i64 k] W fun e w' => e = .returned (.bool d) ∧ Below W.heap.size W w') := fun W hW => by
                have := deadS sec a nd cap K da dc D k W HOK.out hkS (HE.out.1.mono (Nat.le_refl _) hW (Nat.le_refl _)) (HE.out.2.2.mono (Nat.le_refl _) hW (Nat.le_refl _))
                rw [hd.out] at this
                exact this
              clear ht hd
              by_cases h1 : -1000000 ≤ xc ∧ xc ≤ 1000000
              · by_cases h2 : -1 ≤ xa ∧ xa ≤ 1
                · by_cases h3 : x0 = t
                  · subst h3
                    go_wp2_with fail
                    go_region_held3 (fun w' => w'.cell? ⟨w.heap.size, 0, none⟩ = some (.int .i64 sec) ∧ w'.cell? ⟨w.heap.size, 1, none⟩ = some (.slice a nd cap) ∧ w'.cell? ⟨w.heap.size + 1, 2, none⟩ = some (.slice da nd dc) ∧ w'.cell? ⟨wr.heap.size, 0, none⟩ = some (.int .i64 x0) ∧ w'.cell? ⟨wr.heap.size, 1, none⟩ = some (.int .i64 xc) ∧ w'.cell? ⟨wr.heap.size, 2, none⟩ = some (.bool xl) ∧ w'.cell? ⟨wr.heap.size, 3, none⟩ = some (.bool xs) ∧ w'.cell? ⟨wr.heap.size, 4, none⟩ = some (.int .i64 xa)) (go_keep) (first
                      | (go_at_call 38; refine (innT _ _ _ _ (by omega)).mono ?_; rintro e w2 ⟨rfl, rfl⟩)
                      | (go_at_call 38; refine (innF _ _ _ _ (by omega)).mono ?_; rintro e w2 ⟨rfl, rfl⟩)
                      | (go_at_call 57; refine (HTS.out _ HW.out.2.2.2).mono ?_; rintro e w3 ⟨rfl, hb3⟩; have HW3 : Hid (Box w3 w.heap.size 29 #[.int .i64 sec, .slice a nd cap] ∧ Box w3 (w.heap.size + 1) 42 #[.bool true, .slice (some ⟨b, off, none⟩) ns sc, .slice da nd dc] ∧ Box w3 wr.heap.size 84 #[.int .i64 x0, .int .i64 xc, .bool xl, .bool xs, .int .i64 xa] ∧ Below w.heap.size w w3) := ⟨HW.out.1.mono hb3 (Nat.le_refl _), HW.out.2.1.mono hb3 (Nat.le_refl _), HW.out.2.2.1.mono hb3 (Nat.le_refl _), HW.out.2.2.2.trans (hb3.mono HW.out.2.2.2.size)⟩; clear hb3; have m0 : w3.cell? ⟨w.heap.size, 0, none⟩ = some (.int .i64 sec) := HW3.out.1.cell 0; have m1 : w3.cell? ⟨w.heap.size, 1, none⟩ = some (.slice a nd cap) := HW3.out.1.cell 1; have m2 : w3.cell? ⟨w.heap.size + 1, 2, none⟩ = some (.slice da nd dc) := HW3.out.2.1.cell 2; have m3 : w3.cell? ⟨wr.heap.size, 0, none⟩ = some (.int .i64 x0) := HW3.out.2.2.1.cell 0; have m4 : w3.cell? ⟨wr.heap.size, 1, none⟩ = some (.int .i64 xc) := HW3.out.2.2.1.cell 1; have m5 : w3.cell? ⟨wr.heap.size, 2, none⟩ = some (.bool xl) := HW3.out.2.2.1.cell 2; have m6 : w3.cell? ⟨wr.heap.size, 3, none⟩ = some (.bool xs) := HW3.out.2.2.1.cell 3; have m7 : w3.cell? ⟨wr.heap.size, 4, none⟩ = some (.int .i64 xa) := HW3.out.2.2.1.cell 4))
                    have h3 : (x0 != x0) = false := by simp
                    rcases Int.lt_trichotomy xc 0 with hsg | rfl | hsg
                    · have hzn : ¬ xc = 0 := by omega
                      cases xl
                      · have HR : Hid (coB sec nd K true ns nd S D = false) := HFk.out (by rw [HSK.out]; (first | (simp; done) | (simp [h1, h2]; done) | (simp [h1, h2, hzn]; done) | (simp [h1, h2, hsg]; done) | (simp [h1, h2, hsg, hzn]; done) | (simp [h1, h2, hsg2, hzn]; done) | (simp [h1, h2]; omega)))
                        have hz2 : (xc == 0) = false := by simp [hzn]
                        go_wp2_with fail
                        go_ret
                        exact ⟨by rw [HR.out]; rfl, HW3.out.2.2.2⟩
                      · cases xs
                        · cases d
                          · have HR : Hid (∀ j, j < k + 1 → secOk (deadB K nd D j) (S j) = true) := HAk.out (by rw [HSK.out]; (first | (simp; done) | (simp [h1, h2]; done) | (simp [h1, h2, hzn]; done) | (simp [h1, h2, hsg]; done) | (simp [h1, h2, hsg, hzn]; done) | (simp [h1, h2, hsg2, hzn]; done) | (simp [h1, h2]; omega)))
                            have hz2 : (xc == 0) = false := by simp [hzn]
                            go_wp2_with (first | (go_at_call 56; refine (HDS.out _ HW3.out.2.2.2).mono ?_; rintro e w4 ⟨rfl, hb4⟩; have HW4 : Hid (Box w4 w.heap.size 29 #[.int .i64 sec, .slice a nd cap] ∧ Box w4 (w.heap.size + 1) 42 #[.bool true, .slice (some ⟨b, off, none⟩) ns sc, .slice da nd dc] ∧ Box w4 wr.heap.size 84 #[.int .i64 x0, .int .i64 xc, .bool true, .bool false, .int .i64 xa] ∧ Below w.heap.size w w4) := ⟨HW3.out.1.mono hb4 (Nat.le_refl _), HW3.out.2.1.mono hb4 (Nat.le_refl _), HW3.out.2.2.1.mono hb4 (Nat.le_refl _), HW3.out.2.2.2.trans (hb4.mono HW3.out.2.2.2.size)⟩; clear hb4; have n4 : w4.cell? ⟨wr.heap.size, 1, none⟩ = some (.int .i64 xc) := HW4.out.2.2.1.cell 1; have n5 : w4.cell? ⟨wr.heap.size, 2, none⟩ = some (.bool true) := HW4.out.2.2.1.cell 2; have n6 : w4.cell? ⟨wr.heap.size, 3, none⟩ = some (.bool false) := HW4.out.2.2.1.cell 3; have n7 : w4.cell? ⟨wr.heap.size, 4, none⟩ = some (.int .i64 xa) := HW4.out.2.2.1.cell 4))
                            go_roundw
                            case rel => exact ⟨k + 1, by omega, by go_num, HR, HW4.out.1, HW4.out.2.1, HW4.out.2.2.2⟩
                            case measure => simp [intOf]; omega
                          · have HR : Hid (∀ j, j < k + 1 → secOk (deadB K nd D j) (S j) = true) := HAk.out (by rw [HSK.out]; (first | (simp; done) | (simp [h1, h2]; done) | (simp [h1, h2, hzn]; done) | (simp [h1, h2, hsg]; done) | (simp [h1, h2, hsg, hzn]; done) | (simp [h1, h2, hsg2, hzn]; done) | (simp [h1, h2]; omega)))
                            have hz2 : (xc == 0) = false := by simp [hzn]
                            go_wp2_with (first | (go_at_call 56; refine (HDS.out _ HW3.out.2.2.2).mono ?_; rintro e w4 ⟨rfl, hb4⟩; have HW4 : Hid (Box w4 w.heap.size 29 #[.int .i64 sec, .slice a nd cap] ∧ Box w4 (w.heap.size + 1) 42 #[.bool true, .slice (some ⟨b, off, none⟩) ns sc, .slice da nd dc] ∧ Box w4 wr.heap.size 84 #[.int .i64 x0, .int .i64 xc, .bool true, .bool false, .int .i64 xa] ∧ Below w.heap.size w w4) := ⟨HW3.out.1.mono hb4 (Nat.le_refl _), HW3.out.2.1.mono hb4 (Nat.le_refl _), HW3.out.2.2.1.mono hb4 (Nat.le_refl _), HW3.out.2.2.2.trans (hb4.mono HW3.out.2.2.2.size)⟩; clear hb4; have n4 : w4.cell? ⟨wr.heap.size, 1, none⟩ = some (.int .i64 xc) := HW4.out.2.2.1.cell 1; have n5 : w4.cell? ⟨wr.heap.size, 2, none⟩ = some (.bool true) := HW4.out.2.2.1.cell 2; have n6 : w4.cell? ⟨wr.heap.size, 3, none⟩ = some (.bool false) := HW4.out.2.2.1.cell 3; have n7 : w4.cell? ⟨wr.heap.size, 4, none⟩ = some (.int .i64 xa) := HW4.out.2.2.1.cell 4))
                            go_roundw
                            case rel => exact ⟨k + 1, by omega, by go_num, HR, HW4.out.1, HW4.out.2.1, HW4.out.2.2.2⟩
                            case measure => simp [intOf]; omega
                        · cases d
                          · have HR : Hid (∀ j, j < k + 1 → secOk (deadB K nd D j) (S j) = true) := HAk.out (by rw [HSK.out]; (first | (simp; done) | (simp [h1, h2]; done) | (simp [h1, h2, hzn]; done) | (simp [h1, h2, hsg]; done) | (simp [h1, h2, hsg, hzn]; done) | (simp [h1, h2, hsg2, hzn]; done) | (simp [h1, h2]; omega)))
                            have hz2 : (xc == 0) = false := by simp [hzn]
                            go_wp2_with (first | (go_at_call 56; refine (HDS.out _ HW3.out.2.2.2).mono ?_; rintro e w4 ⟨rfl, hb4⟩; have HW4 : Hid (Box w4 w.heap.size 29 #[.int .i64 sec, .slice a nd cap] ∧ Box w4 (w.heap.size + 1) 42 #[.bool true, .slice (some ⟨b, off, none⟩) ns sc, .slice da nd dc] ∧ Box w4 wr.heap.size 84 #[.int .i64 x0, .int .i64 xc, .bool true, .bool true, .int .i64 xa] ∧ Below w.heap.size w w4) := ⟨HW3.out.1.mono hb4 (Nat.le_refl _), HW3.out.2.1.mono hb4 (Nat.le_refl _), HW3.out.2.2.1.mono hb4 (Nat.le_refl _), HW3.out.2.2.2.trans (hb4.mono HW3.out.2.2.2.size)⟩; clear hb4; have n4 : w4.cell? ⟨wr.heap.size, 1, none⟩ = some (.int .i64 xc) := HW4.out.2.2.1.cell 1; have n5 : w4.cell? ⟨wr.heap.size, 2, none⟩ = some (.bool true) := HW4.out.2.2.1.cell 2; have n6 : w4.cell? ⟨wr.heap.size, 3, none⟩ = some (.bool true) := HW4.out.2.2.1.cell 3; have n7 : w4.cell? ⟨wr.heap.size, 4, none⟩ = some (.int .i64 xa) := HW4.out.2.2.1.cell 4))
                            go_roundw
                            case rel => exact ⟨k + 1, by omega, by go_num, HR, HW4.out.1, HW4.out.2.1, HW4.out.2.2.2⟩
                            case measure => simp [intOf]; omega
                          · have HR : Hid (∀ j, j < k + 1 → secOk (deadB K nd D j) (S j) = true) := HAk.out (by rw [HSK.out]; (first | (simp; done) | (simp [h1, h2]; done) | (simp [h1, h2, hzn]; done) | (simp [h1, h2, hsg]; done) | (simp [h1, h2, hsg, hzn]; done) | (simp [h1, h2, hsg2, hzn]; done) | (simp [h1, h2]; omega)))
                            have hz2 : (xc == 0) = false := by simp [hzn]
                            go_wp2_with (first | (go_at_call 56; refine (HDS.out _ HW3.out.2.2.2).mono ?_; rintro e w4 ⟨rfl, hb4⟩; have HW4 : Hid (Box w4 w.heap.size 29 #[.int .i64 sec, .slice a nd cap] ∧ Box w4 (w.heap.size + 1) 42 #[.bool true, .slice (some ⟨b, off, none⟩) ns sc, .slice da nd dc] ∧ Box w4 wr.heap.size 84 #[.int .i64 x0, .int .i64 xc, .bool true, .bool true, .int .i64 xa] ∧ Below w.heap.size w w4) := ⟨HW3.out.1.mono hb4 (Nat.le_refl _), HW3.out.2.1.mono hb4 (Nat.le_refl _), HW3.out.2.2.1.mono hb4 (Nat.le_refl _), HW3.out.2.2.2.trans (hb4.mono HW3.out.2.2.2.size)⟩; clear hb4; have n4 : w4.cell? ⟨wr.heap.size, 1, none⟩ = some (.int .i64 xc) := HW4.out.2.2.1.cell 1; have n5 : w4.cell? ⟨wr.heap.size, 2, none⟩ = some (.bool true) := HW4.out.2.2.1.cell 2; have n6 : w4.cell? ⟨wr.heap.size, 3, none⟩ = some (.bool true) := HW4.out.2.2.1.cell 3; have n7 : w4.cell? ⟨wr.heap.size, 4, none⟩ = some (.int .i64 xa) := HW4.out.2.2.1.cell 4))
                            go_roundw
                            case rel => exact ⟨k + 1, by omega, by go_num, HR, HW4.out.1, HW4.out.2.1, HW4.out.2.2.2⟩
                            case measure => simp [intOf]; omega
                    · cases xl
                      · cases d
                        · cases xs
                          · have HR : Hid (∀ j, j < k + 1 → secOk (deadB K nd D j) (S j) = true) := HAk.out (by rw [HSK.out]; (first | (simp; done) | (simp [h2]; done)))
                            go_wp2_with (first | (go_at_call 56; refine (HDS.out _ HW3.out.2.2.2).mono ?_; rintro e w4 ⟨rfl, hb4⟩; have HW4 : Hid (Box w4 w.heap.size 29 #[.int .i64 sec, .slice a nd cap] ∧ Box w4 (w.heap.size + 1) 42 #[.bool true, .slice (some ⟨b, off, none⟩) ns sc, .slice da nd dc] ∧ Box w4 wr.heap.size 84 #[.int .i64 x0, .int .i64 0, .bool false, .bool false, .int .i64 xa] ∧ Below w.heap.size w w4) := ⟨HW3.out.1.mono hb4 (Nat.le_refl _), HW3.out.2.1.mono hb4 (Nat.le_refl _), HW3.out.2.2.1.mono hb4 (Nat.le_refl _), HW3.out.2.2.2.trans (hb4.mono HW3.out.2.2.2.size)⟩; clear hb4; have n4 : w4.cell? ⟨wr.heap.size, 1, none⟩ = some (.int .i64 0) := HW4.out.2.2.1.cell 1; have n5 : w4.cell? ⟨wr.heap.size, 2, none⟩ = some (.bool false) := HW4.out.2.2.1.cell 2; have n6 : w4.cell? ⟨wr.heap.size, 3, none⟩ = some (.bool false) := HW4.out.2.2.1.cell 3; have n7 : w4.cell? ⟨wr.heap.size, 4, none⟩ = some (.int .i64 xa) := HW4.out.2.2.1.cell 4))
                            go_roundw
                            case rel => exact ⟨k + 1, by omega, by go_num, HR, HW4.out.1, HW4.out.2.1, HW4.out.2.2.2⟩
                            case measure => simp [intOf]; omega
                          · by_cases hla : xa = -1
                            · subst hla
                              have HR : Hid (coB sec nd K true ns nd S D = false) := HFk.out (by rw [HSK.out]; (first | (simp; done) | (simp []; done)))
                              go_wp2_with (first | (go_at_call 56; refine (HDS.out _ HW3.out.2.2.2).mono ?_; rintro e w4 ⟨rfl, hb4⟩; have HW4 : Hid (Box w4 w.heap.size 29 #[.int .i64 sec, .slice a nd cap] ∧ Box w4 (w.heap.size + 1) 42 #[.bool true, .slice (some ⟨b, off, none⟩) ns sc, .slice da nd dc] ∧ Box w4 wr.heap.size 84 #[.int .i64 x0, .int .i64 0, .bool false, .bool true, .int .i64 (-1)] ∧ Below w.heap.size w w4) := ⟨HW3.out.1.mono hb4 (Nat.le_refl _), HW3.out.2.1.mono hb4 (Nat.le_refl _), HW3.out.2.2.1.mono hb4 (Nat.le_refl _), HW3.out.2.2.2.trans (hb4.mono HW3.out.2.2.2.size)⟩; clear hb4; have n4 : w4.cell? ⟨wr.heap.size, 1, none⟩ = some (.int .i64 0) := HW4.out.2.2.1.cell 1; have n5 : w4.cell? ⟨wr.heap.size, 2, none⟩ = some (.bool false) := HW4.out.2.2.1.cell 2; have n6 : w4.cell? ⟨wr.heap.size, 3, none⟩ = some (.bool true) := HW4.out.2.2.1.cell 3; have n7 : w4.cell? ⟨wr.heap.size, 4, none⟩ = some (.int .i64 (-1)) := HW4.out.2.2.1.cell 4))
                              go_ret
                              exact ⟨by rw [HR.out]; rfl, HW4.out.2.2.2⟩
                            · have HR : Hid (∀ j, j < k + 1 → secOk (deadB K nd D j) (S j) = true) := HAk.out (by rw [HSK.out]; (first | (simp; done) | (simp [h2, hla]; done)))
                              have hla2 : (xa == -1) = false := by simp [hla]
                              go_wp2_with (first | (go_at_call 56; refine (HDS.out _ HW3.out.2.2.2).mono ?_; rintro e w4 ⟨rfl, hb4⟩; have HW4 : Hid (Box w4 w.heap.size 29 #[.int .i64 sec, .slice a nd cap] ∧ Box w4 (w.heap.size + 1) 42 #[.bool true, .slice (some ⟨b, off, none⟩) ns sc, .slice da nd dc] ∧ Box w4 wr.heap.size 84 #[.int .i64 x0, .int .i64 0, .bool false, .bool true, .int .i64 xa] ∧ Below w.heap.size w w4) := ⟨HW3.out.1.mono hb4 (Nat.le_refl _), HW3.out.2.1.mono hb4 (Nat.le_refl _), HW3.out.2.2.1.mono hb4 (Nat.le_refl _), HW3.out.2.2.2.trans (hb4.mono HW3.out.2.2.2.size)⟩; clear hb4; have n4 : w4.cell? ⟨wr.heap.size, 1, none⟩ = some (.int .i64 0) := HW4.out.2.2.1.cell 1; have n5 : w4.cell? ⟨wr.heap.size, 2, none⟩ = some (.bool false) := HW4.out.2.2.1.cell 2; have n6 : w4.cell? ⟨wr.heap.size, 3, none⟩ = some (.bool true) := HW4.out.2.2.1.cell 3; have n7 : w4.cell? ⟨wr.heap.size, 4, none⟩ = some (.int .i64 xa) := HW4.out.2.2.1.cell 4))
                              go_roundw
                              case rel => exact ⟨k + 1, by omega, by go_num, HR, HW4.out.1, HW4.out.2.1, HW4.out.2.2.2⟩
                              case measure => simp [intOf]; omega
                        · have HR : Hid (coB sec nd K true ns nd S D = false) := HFk.out (by rw [HSK.out]; (first | (simp; done) | (simp [h2]; done)))
                          go_wp2_with (first | (go_at_call 56; refine (HDS.out _ HW3.out.2.2.2).mono ?_; rintro e w4 ⟨rfl, hb4⟩; have HW4 : Hid (Box w4 w.heap.size 29 #[.int .i64 sec, .slice a nd cap] ∧ Box w4 (w.heap.size + 1) 42 #[.bool true, .slice (some ⟨b, off, none⟩) ns sc, .slice da nd dc] ∧ Box w4 wr.heap.size 84 #[.int .i64 x0, .int .i64 0, .bool false, .bool xs, .int .i64 xa] ∧ Below w.heap.size w w4) := ⟨HW3.out.1.mono hb4 (Nat.le_refl _), HW3.out.2.1.mono hb4 (Nat.le_refl _), HW3.out.2.2.1.mono hb4 (Nat.le_refl _), HW3.out.2.2.2.trans (hb4.mono HW3.out.2.2.2.size)⟩; clear hb4; have n4 : w4.cell? ⟨wr.heap.size, 1, none⟩ = some (.int .i64 0) := HW4.out.2.2.1.cell 1; have n5 : w4.cell? ⟨wr.heap.size, 2, none⟩ = some (.bool false) := HW4.out.2.2.1.cell 2; have n6 : w4.cell? ⟨wr.heap.size, 3, none⟩ = some (.bool xs) := HW4.out.2.2.1.cell 3; have n7 : w4.cell? ⟨wr.heap.size, 4, none⟩ = some (.int .i64 xa) := HW4.out.2.2.1.cell 4))
                          go_ret
                          exact ⟨by rw [HR.out]; rfl, HW4.out.2.2.2⟩
                      · cases d
                        · cases xs
                          · have HR : Hid (∀ j, j < k + 1 → secOk (deadB K nd D j) (S j) = true) := HAk.out (by rw [HSK.out]; (first | (simp; done) | (simp [h2]; done)))
                            go_wp2_with (first | (go_at_call 56; refine (HDS.out _ HW3.out.2.2.2).mono ?_; rintro e w4 ⟨rfl, hb4⟩; have HW4 : Hid (Box w4 w.heap.size 29 #[.int .i64 sec, .slice a nd cap] ∧ Box w4 (w.heap.size + 1) 42 #[.bool true, .slice (some ⟨b, off, none⟩) ns sc, .slice da nd dc] ∧ Box w4 wr.heap.size 84 #[.int .i64 x0, .int .i64 0, .bool true, .bool false, .int .i64 xa] ∧ Below w.heap.size w w4) := ⟨HW3.out.1.mono hb4 (Nat.le_refl _), HW3.out.2.1.mono hb4 (Nat.le_refl _), HW3.out.2.2.1.mono hb4 (Nat.le_refl _), HW3.out.2.2.2.trans (hb4.mono HW3.out.2.2.2.size)⟩; clear hb4; have n4 : w4.cell? ⟨wr.heap.size, 1, none⟩ = some (.int .i64 0) := HW4.out.2.2.1.cell 1; have n5 : w4.cell? ⟨wr.heap.size, 2, none⟩ = some (.bool true) := HW4.out.2.2.1.cell 2; have n6 : w4.cell? ⟨wr.heap.size, 3, none⟩ = some (.bool false) := HW4.out.2.2.1.cell 3; have n7 : w4.cell? ⟨wr.heap.size, 4, none⟩ = some (.int .i64 xa) := HW4.out.2.2.1.cell 4))
                            go_roundw
                            case rel => exact ⟨k + 1, by omega, by go_num, HR, HW4.out.1, HW4.out.2.1, HW4.out.2.2.2⟩
                            case measure => simp [intOf]; omega
                          · by_cases hla : xa = -1
                            · subst hla
                              have HR : Hid (∀ j, j < k + 1 → secOk (deadB K nd D j) (S j) = true) := HAk.out (by rw [HSK.out]; (first | (simp; done) | (simp []; done)))
                              go_wp2_with (first | (go_at_call 56; refine (HDS.out _ HW3.out.2.2.2).mono ?_; rintro e w4 ⟨rfl, hb4⟩; have HW4 : Hid (Box w4 w.heap.size 29 #[.int .i64 sec, .slice a nd cap] ∧ Box w4 (w.heap.size + 1) 42 #[.bool true, .slice (some ⟨b, off, none⟩) ns sc, .slice da nd dc] ∧ Box w4 wr.heap.size 84 #[.int .i64 x0, .int .i64 0, .bool true, .bool true, .int .i64 (-1)] ∧ Below w.heap.size w w4) := ⟨HW3.out.1.mono hb4 (Nat.le_refl _), HW3.out.2.1.mono hb4 (Nat.le_refl _), HW3.out.2.2.1.mono hb4 (Nat.le_refl _), HW3.out.2.2.2.trans (hb4.mono HW3.out.2.2.2.size)⟩; clear hb4; have n4 : w4.cell? ⟨wr.heap.size, 1, none⟩ = some (.int .i64 0) := HW4.out.2.2.1.cell 1; have n5 : w4.cell? ⟨wr.heap.size, 2, none⟩ = some (.bool true) := HW4.out.2.2.1.cell 2; have n6 : w4.cell? ⟨wr.heap.size, 3, none⟩ = some (.bool true) := HW4.out.2.2.1.cell 3; have n7 : w4.cell? ⟨wr.heap.size, 4, none⟩ = some (.int .i64 (-1)) := HW4.out.2.2.1.cell 4))
                              go_roundw
                              case rel => exact ⟨k + 1, by omega, by go_num, HR, HW4.out.1, HW4.out.2.1, HW4.out.2.2.2⟩
                              case measure => simp [intOf]; omega
                            · have HR : Hid (∀ j, j < k + 1 → secOk (deadB K nd D j) (S j) = true) := HAk.out (by rw [HSK.out]; (first | (simp; done) | (simp [h2, hla]; done)))
                              have hla2 : (xa == -1) = false := by simp [hla]
                              go_wp2_with (first | (go_at_call 56; refine (HDS.out _ HW3.out.2.2.2).mono ?_; rintro e w4 ⟨rfl, hb4⟩; have HW4 : Hid (Box w4 w.heap.size 29 #[.int .i64 sec, .slice a nd cap] ∧ Box w4 (w.heap.size + 1) 42 #[.bool true, .slice (some ⟨b, off, none⟩) ns sc, .slice da nd dc] ∧ Box w4 wr.heap.size 84 #[.int .i64 x0, .int .i64 0, .bool true, .bool true, .int .i64 xa] ∧ Below w.heap.size w w4) := ⟨HW3.out.1.mono hb4 (Nat.le_refl _), HW3.out.2.1.mono hb4 (Nat.le_refl _), HW3.out.2.2.1.mono hb4 (Nat.le_refl _), HW3.out.2.2.2.trans (hb4.mono HW3.out.2.2.2.size)⟩; clear hb4; have n4 : w4.cell? ⟨wr.heap.size, 1, none⟩ = some (.int .i64 0) := HW4.out.2.2.1.cell 1; have n5 : w4.cell? ⟨wr.heap.size, 2, none⟩ = some (.bool true) := HW4.out.2.2.1.cell 2; have n6 : w4.cell? ⟨wr.heap.size, 3, none⟩ = some (.bool true) := HW4.out.2.2.1.cell 3; have n7 : w4.cell? ⟨wr.heap.size, 4, none⟩ = some (.int .i64 xa) := HW4.out.2.2.1.cell 4))
                              go_roundw
                              case rel => exact ⟨k + 1, by omega, by go_num, HR, HW4.out.1, HW4.out.2.1, HW4.out.2.2.2⟩
                              case measure => simp [intOf]; omega
                        · cases xs
                          · have HR : Hid (∀ j, j < k + 1 → secOk (deadB K nd D j) (S j) = true) := HAk.out (by rw [HSK.out]; (first | (simp; done) | (simp [h2]; done)))
                            go_wp2_with (first | (go_at_call 56; refine (HDS.out _ HW3.out.2.2.2).mono ?_; rintro e w4 ⟨rfl, hb4⟩; have HW4 : Hid (Box w4 w.heap.size 29 #[.int .i64 sec, .slice a nd cap] ∧ Box w4 (w.heap.size + 1) 42 #[.bool true, .slice (some ⟨b, off, none⟩) ns sc, .slice da nd dc] ∧ Box w4 wr.heap.size 84 #[.int .i64 x0, .int .i64 0, .bool true, .bool false, .int .i64 xa] ∧ Below w.heap.size w w4) := ⟨HW3.out.1.mono hb4 (Nat.le_refl _), HW3.out.2.1.mono hb4 (Nat.le_refl _), HW3.out.2.2.1.mono hb4 (Nat.le_refl _), HW3.out.2.2.2.trans (hb4.mono HW3.out.2.2.2.size)⟩; clear hb4; have n4 : w4.cell? ⟨wr.heap.size, 1, none⟩ = some (.int .i64 0) := HW4.out.2.2.1.cell 1; have n5 : w4.cell? ⟨wr.heap.size, 2, none⟩ = some (.bool true) := HW4.out.2.2.1.cell 2; have n6 : w4.cell? ⟨wr.heap.size, 3, none⟩ = some (.bool false) := HW4.out.2.2.1.cell 3; have n7 : w4.cell? ⟨wr.heap.size, 4, none⟩ = some (.int .i64 xa) := HW4.out.2.2.1.cell 4))
                            go_roundw
                            case rel => exact ⟨k + 1, by omega, by go_num, HR, HW4.out.1, HW4.out.2.1, HW4.out.2.2.2⟩
                            case measure => simp [intOf]; omega
                          · by_cases hla : xa = -1
                            · subst hla
                              have HR : Hid (∀ j, j < k + 1 → secOk (deadB K nd D j) (S j) = true) := HAk.out (by rw [HSK.out]; (first | (simp; done) | (simp []; done)))
                              go_wp2_with (first | (go_at_call 56; refine (HDS.out _ HW3.out.2.2.2).mono ?_; rintro e w4 ⟨rfl, hb4⟩; have HW4 : Hid (Box w4 w.heap.size 29 #[.int .i64 sec, .slice a nd cap] ∧ Box w4 (w.heap.size + 1) 42 #[.bool true, .slice (some ⟨b, off, none⟩) ns sc, .slice da nd dc] ∧ Box w4 wr.heap.size 84 #[.int .i64 x0, .int .i64 0, .bool true, .bool true, .int .i64 (-1)] ∧ Below w.heap.size w w4) := ⟨HW3.out.1.mono hb4 (Nat.le_refl _), HW3.out.2.1.mono hb4 (Nat.le_refl _), HW3.out.2.2.1.mono hb4 (Nat.le_refl _), HW3.out.2.2.2.trans (hb4.mono HW3.out.2.2.2.size)⟩; clear hb4; have n4 : w4.cell? ⟨wr.heap.size, 1, none⟩ = some (.int .i64 0) := HW4.out.2.2.1.cell 1; have n5 : w4.cell? ⟨wr.heap.size, 2, none⟩ = some (.bool true) := HW4.out.2.2.1.cell 2; have n6 : w4.cell? ⟨wr.heap.size, 3, none⟩ = some (.bool true) := HW4.out.2.2.1.cell 3; have n7 : w4.cell? ⟨wr.heap.size, 4, none⟩ = some (.int .i64 (-1)) := HW4.out.2.2.1.cell 4))
                              go_roundw
                              case rel => exact ⟨k + 1, by omega, by go_num, HR, HW4.out.1, HW4.out.2.1, HW4.out.2.2.2⟩
                              case measure => simp [intOf]; omega
                            · have HR : Hid (∀ j, j < k + 1 → secOk (deadB K nd D j) (S j) = true) := HAk.out (by rw [HSK.out]; (first | (simp; done) | (simp [h2, hla]; done)))
                              have hla2 : (xa == -1) = false := by simp [hla]
                              go_wp2_with (first | (go_at_call 56; refine (HDS.out _ HW3.out.2.2.2).mono ?_; rintro e w4 ⟨rfl, hb4⟩; have HW4 : Hid (Box w4 w.heap.size 29 #[.int .i64 sec, .slice a nd cap] ∧ Box w4 (w.heap.size + 1) 42 #[.bool true, .slice (some ⟨b, off, none⟩) ns sc, .slice da nd dc] ∧ Box w4 wr.heap.size 84 #[.int .i64 x0, .int .i64 0, .bool true, .bool true, .int .i64 xa] ∧ Below w.heap.size w w4) := ⟨HW3.out.1.mono hb4 (Nat.le_refl _), HW3.out.2.1.mono hb4 (Nat.le_refl _), HW3.out.2.2.1.mono hb4 (Nat.le_refl _), HW3.out.2.2.2.trans (hb4.mono HW3.out.2.2.2.size)⟩; clear hb4; have n4 : w4.cell? ⟨wr.heap.size, 1, none⟩ = some (.int .i64 0) := HW4.out.2.2.1.cell 1; have n5 : w4.cell? ⟨wr.heap.size, 2, none⟩ = some (.bool true) := HW4.out.2.2.1.cell 2; have n6 : w4.cell? ⟨wr.heap.size, 3, none⟩ = some (.bool true) := HW4.out.2.2.1.cell 3; have n7 : w4.cell? ⟨wr.heap.size, 4, none⟩ = some (.int .i64 xa) := HW4.out.2.2.1.cell 4))
                              go_roundw
                              case rel => exact ⟨k + 1, by omega, by go_num, HR, HW4.out.1, HW4.out.2.1, HW4.out.2.2.2⟩
                              case measure => simp [intOf]; omega
                    · have hzn : ¬ xc = 0 := by omega
                      have hsg2 : ¬ xc < 0 := by omega
                      cases xl
                      · cases d
                        · cases xs
                          · have HR : Hid (∀ j, j < k + 1 → secOk (deadB K nd D j) (S j) = true) := HAk.out (by rw [HSK.out]; (first | (simp; done) | (simp [h1, h2, hsg2, hzn]; done)))
                            have hz2 : (xc == 0) = false := by simp [hzn]
                            go_wp2_with (first | (go_at_call 56; refine (HDS.out _ HW3.out.2.2.2).mono ?_; rintro e w4 ⟨rfl, hb4⟩; have HW4 : Hid (Box w4 w.heap.size 29 #[.int .i64 sec, .slice a nd cap] ∧ Box w4 (w.heap.size + 1) 42 #[.bool true, .slice (some ⟨b, off, none⟩) ns sc, .slice da nd dc] ∧ Box w4 wr.heap.size 84 #[.int .i64 x0, .int .i64 xc, .bool false, .bool false, .int .i64 xa] ∧ Below w.heap.size w w4) := ⟨HW3.out.1.mono hb4 (Nat.le_refl _), HW3.out.2.1.mono hb4 (Nat.le_refl _), HW3.out.2.2.1.mono hb4 (Nat.le_refl _), HW3.out.2.2.2.trans (hb4.mono HW3.out.2.2.2.size)⟩; clear hb4; have n4 : w4.cell? ⟨wr.heap.size, 1, none⟩ = some (.int .i64 xc) := HW4.out.2.2.1.cell 1; have n5 : w4.cell? ⟨wr.heap.size, 2, none⟩ = some (.bool false) := HW4.out.2.2.1.cell 2; have n6 : w4.cell? ⟨wr.heap.size, 3, none⟩ = some (.bool false) := HW4.out.2.2.1.cell 3; have n7 : w4.cell? ⟨wr.heap.size, 4, none⟩ = some (.int .i64 xa) := HW4.out.2.2.1.cell 4))
                            go_roundw
                            case rel => exact ⟨k + 1, by omega, by go_num, HR, HW4.out.1, HW4.out.2.1, HW4.out.2.2.2⟩
                            case measure => simp [intOf]; omega
                          · have HR : Hid (∀ j, j < k + 1 → secOk (deadB K nd D j) (S j) = true) := HAk.out (by rw [HSK.out]; simp [h1, h2, hsg2, hzn])
                            have hz2 : (xc == 0) = false := by simp [hzn]
                            go_wp2_with (first | (go_at_call 56; refine (HDS.out _ HW3.out.2.2.2).mono ?_; rintro e w4 ⟨rfl, hb4⟩; have HW4 : Hid (Box w4 w.heap.size 29 #[.int .i64 sec, .slice a nd cap] ∧ Box w4 (w.heap.size + 1) 42 #[.bool true, .slice (some ⟨b, off, none⟩) ns sc, .slice da nd dc] ∧ Box w4 wr.heap.size 84 #[.int .i64 x0, .int .i64 xc, .bool false, .bool true, .int .i64 xa] ∧ Below w.heap.size w w4) := ⟨HW3.out.1.mono hb4 (Nat.le_refl _), HW3.out.2.1.mono hb4 (Nat.le_refl _), HW3.out.2.2.1.mono hb4 (Nat.le_refl _), HW3.out.2.2.2.trans (hb4.mono HW3.out.2.2.2.size)⟩; clear hb4; have n4 : w4.cell? ⟨wr.heap.size, 1, none⟩ = some (.int .i64 xc) := HW4.out.2.2.1.cell 1; have n5 : w4.cell? ⟨wr.heap.size, 2, none⟩ = some (.bool false) := HW4.out.2.2.1.cell 2; have n6 : w4.cell? ⟨wr.heap.size, 3, none⟩ = some (.bool true) := HW4.out.2.2.1.cell 3; have n7 : w4.cell? ⟨wr.heap.size, 4, none⟩ = some (.int .i64 xa) := HW4.out.2.2.1.cell 4))
                            go_roundw
                            case rel => exact ⟨k + 1, by omega, by go_num, HR, HW4.out.1, HW4.out.2.1, HW4.out.2.2.2⟩
                            case measure => simp [intOf]; omega
                        · have HR : Hid (coB sec nd K true ns nd S D = false) := HFk.out (by rw [HSK.out]; (first | (simp; done) | (simp [h1, h2]; done) | (simp [h1, h2, hzn]; done) | (simp [h1, h2, hsg]; done) | (simp [h1, h2, hsg, hzn]; done) | (simp [h1, h2, hsg2, hzn]; done) | (simp [h1, h2]; omega)))
                          have hz2 : (xc == 0) = false := by simp [hzn]
                          go_wp2_with (first | (go_at_call 56; refine (HDS.out _ HW3.out.2.2.2).mono ?_; rintro e w4 ⟨rfl, hb4⟩; have HW4 : Hid (Box w4 w.heap.size 29 #[.int .i64 sec, .slice a nd cap] ∧ Box w4 (w.heap.size + 1) 42 #[.bool true, .slice (some ⟨b, off, none⟩) ns sc, .slice da nd dc] ∧ Box w4 wr.heap.size 84 #[.int .i64 x0, .int .i64 xc, .bool false, .bool xs, .int .i64 xa] ∧ Below w.heap.size w w4) := ⟨HW3.out.1.mono hb4 (Nat.le_refl _), HW3.out.2.1.mono hb4 (Nat.le_refl _), HW3.out.2.2.1.mono hb4 (Nat.le_refl _), HW3.out.2.2.2.trans (hb4.mono HW3.out.2.2.2.size)⟩; clear hb4; have n4 : w4.cell? ⟨wr.heap.size, 1, none⟩ = some (.int .i64 xc) := HW4.out.2.2.1.cell 1; have n5 : w4.cell? ⟨wr.heap.size, 2, none⟩ = some (.bool false) := HW4.out.2.2.1.cell 2; have n6 : w4.cell? ⟨wr.heap.size, 3, none⟩ = some (.bool xs) := HW4.out.2.2.1.cell 3; have n7 : w4.cell? ⟨wr.heap.size, 4, none⟩ = some (.int .i64 xa) := HW4.out.2.2.1.cell 4))
                          go_ret
                          exact ⟨by rw [HR.out]; rfl, HW4.out.2.2.2⟩
                      · cases d
                        · cases xs
                          · have HR : Hid (∀ j, j < k + 1 → secOk (deadB K nd D j) (S j) = true) := HAk.out (by rw [HSK.out]; (first | (simp; done) | (simp [h1, h2]; done) | (simp [h1, h2, hzn]; done) | (simp [h1, h2, hsg]; done) | (simp [h1, h2, hsg, hzn]; done) | (simp [h1, h2, hsg2, hzn]; done) | (simp [h1, h2]; omega)))
                            have hz2 : (xc == 0) = false := by simp [hzn]
                            go_wp2_with (first | (go_at_call 56; refine (HDS.out _ HW3.out.2.2.2).mono ?_; rintro e w4 ⟨rfl, hb4⟩; have HW4 : Hid (Box w4 w.heap.size 29 #[.int .i64 sec, .slice a nd cap] ∧ Box w4 (w.heap.size + 1) 42 #[.bool true, .slice (some ⟨b, off, none⟩) ns sc, .slice da nd dc] ∧ Box w4 wr.heap.size 84 #[.int .i64 x0, .int .i64 xc, .bool true, .bool false, .int .i64 xa] ∧ Below w.heap.size w w4) := ⟨HW3.out.1.mono hb4 (Nat.le_refl _), HW3.out.2.1.mono hb4 (Nat.le_refl _), HW3.out.2.2.1.mono hb4 (Nat.le_refl _), HW3.out.2.2.2.trans (hb4.mono HW3.out.2.2.2.size)⟩; clear hb4; have n4 : w4.cell? ⟨wr.heap.size, 1, none⟩ = some (.int .i64 xc) := HW4.out.2.2.1.cell 1; have n5 : w4.cell? ⟨wr.heap.size, 2, none⟩ = some (.bool true) := HW4.out.2.2.1.cell 2; have n6 : w4.cell? ⟨wr.heap.size, 3, none⟩ = some (.bool false) := HW4.out.2.2.1.cell 3; have n7 : w4.cell? ⟨wr.heap.size, 4, none⟩ = some (.int .i64 xa) := HW4.out.2.2.1.cell 4))
                            go_roundw
                            case rel => exact ⟨k + 1, by omega, by go_num, HR, HW4.out.1, HW4.out.2.1, HW4.out.2.2.2⟩
                            case measure => simp [intOf]; omega
                          · have HR : Hid (∀ j, j < k + 1 → secOk (deadB K nd D j) (S j) = true) := HAk.out (by rw [HSK.out]; (first | (simp; done) | (simp [h1, h2]; done) | (simp [h1, h2, hzn]; done) | (simp [h1, h2, hsg]; done) | (simp [h1, h2, hsg, hzn]; done) | (simp [h1, h2, hsg2, hzn]; done) | (simp [h1, h2]; omega)))
                            have hz2 : (xc == 0) = false := by simp [hzn]
                            go_wp2_with (first | (go_at_call 56; refine (HDS.out _ HW3.out.2.2.2).mono ?_; rintro e w4 ⟨rfl, hb4⟩; have HW4 : Hid (Box w4 w.heap.size 29 #[.int .i64 sec, .slice a nd cap] ∧ Box w4 (w.heap.size + 1) 42 #[.bool true, .slice (some ⟨b, off, none⟩) ns sc, .slice da nd dc] ∧ Box w4 wr.heap.size 84 #[.int .i64 x0, .int .i64 xc, .bool true, .bool true, .int .i64 xa] ∧ Below w.heap.size w w4) := ⟨HW3.out.1.mono hb4 (Nat.le_refl _), HW3.out.2.1.mono hb4 (Nat.le_refl _), HW3.out.2.2.1.mono hb4 (Nat.le_refl _), HW3.out.2.2.2.trans (hb4.mono HW3.out.2.2.2.size)⟩; clear hb4; have n4 : w4.cell? ⟨wr.heap.size, 1, none⟩ = some (.int .i64 xc) := HW4.out.2.2.1.cell 1; have n5 : w4.cell? ⟨wr.heap.size, 2, none⟩ = some (.bool true) := HW4.out.2.2.1.cell 2; have n6 : w4.cell? ⟨wr.heap.size, 3, none⟩ = some (.bool true) := HW4.out.2.2.1.cell 3; have n7 : w4.cell? ⟨wr.heap.size, 4, none⟩ = some (.int .i64 xa) := HW4.out.2.2.1.cell 4))
                            go_roundw
                            case rel => exact ⟨k + 1, by omega, by go_num, HR, HW4.out.1, HW4.out.2.1, HW4.out.2.2.2⟩
                            case measure => simp [intOf]; omega
                        · cases xs
                          · have HR : Hid (∀ j, j < k + 1 → secOk (deadB K nd D j) (S j) = true) := HAk.out (by rw [HSK.out]; (first | (simp; done) | (simp [h1, h2]; done) | (simp [h1, h2, hzn]; done) | (simp [h1, h2, hsg]; done) | (simp [h1, h2, hsg, hzn]; done) | (simp [h1, h2, hsg2, hzn]; done) | (simp [h1, h2]; omega)))
                            have hz2 : (xc == 0) = false := by simp [hzn]
                            go_wp2_with (first | (go_at_call 56; refine (HDS.out _ HW3.out.2.2.2).mono ?_; rintro e w4 ⟨rfl, hb4⟩; have HW4 : Hid (Box w4 w.heap.size 29 #[.int .i64 sec, .slice a nd cap] ∧ Box w4 (w.heap.size + 1) 42 #[.bool true, .slice (some ⟨b, off, none⟩) ns sc, .slice da nd dc] ∧ Box w4 wr.heap.size 84 #[.int .i64 x0, .int .i64 xc, .bool true, .bool false, .int .i64 xa] ∧ Below w.heap.size w w4) := ⟨HW3.out.1.mono hb4 (Nat.le_refl _), HW3.out.2.1.mono hb4 (Nat.le_refl _), HW3.out.2.2.1.mono hb4 (Nat.le_refl _), HW3.out.2.2.2.trans (hb4.mono HW3.out.2.2.2.size)⟩; clear hb4; have n4 : w4.cell? ⟨wr.heap.size, 1, none⟩ = some (.int .i64 xc) := HW4.out.2.2.1.cell 1; have n5 : w4.cell? ⟨wr.heap.size, 2, none⟩ = some (.bool true) := HW4.out.2.2.1.cell 2; have n6 : w4.cell? ⟨wr.heap.size, 3, none⟩ = some (.bool false) := HW4.out.2.2.1.cell 3; have n7 : w4.cell? ⟨wr.heap.size, 4, none⟩ = some (.int .i64 xa) := HW4.out.2.2.1.cell 4))
                            go_roundw
                            case rel => exact ⟨k + 1, by omega, by go_num, HR, HW4.out.1, HW4.out.2.1, HW4.out.2.2.2⟩
                            case measure => simp [intOf]; omega
                          · have HR : Hid (∀ j, j < k + 1 → secOk (deadB K nd D j) (S j) = true) := HAk.out (by rw [HSK.out]; (first | (simp; done) | (simp [h1, h2]; done) | (simp [h1, h2, hzn]; done) | (simp [h1, h2, hsg]; done) | (simp [h1, h2, hsg, hzn]; done) | (simp [h1, h2, hsg2, hzn]; done) | (simp [h1, h2]; omega)))
                            have hz2 : (xc == 0) = false := by simp [hzn]
                            go_wp2_with (first | (go_at_call 56; refine (HDS.out _ HW3.out.2.2.2).mono ?_; rintro e w4 ⟨rfl, hb4⟩; have HW4 : Hid (Box w4 w.heap.size 29 #[.int .i64 sec, .slice a nd cap] ∧ Box w4 (w.heap.size + 1) 42 #[.bool true, .slice (some ⟨b, off, none⟩) ns sc, .slice da nd dc] ∧ Box w4 wr.heap.size 84 #[.int .i64 x0, .int .i64 xc, .bool true, .bool true, .int .i64 xa] ∧ Below w.heap.size w w4) := ⟨HW3.out.1.mono hb4 (Nat.le_refl _), HW3.out.2.1.mono hb4 (Nat.le_refl _), HW3.out.2.2.1.mono hb4 (Nat.le_refl _), HW3.out.2.2.2.trans (hb4.mono HW3.out.2.2.2.size)⟩; clear hb4; have n4 : w4.cell? ⟨wr.heap.size, 1, none⟩ = some (.int .i64 xc) := HW4.out.2.2.1.cell 1; have n5 : w4.cell? ⟨wr.heap.size, 2, none⟩ = some (.bool true) := HW4.out.2.2.1.cell 2; have n6 : w4.cell? ⟨wr.heap.size, 3, none⟩ = some (.bool true) := HW4.out.2.2.1.cell 3; have n7 : w4.cell? ⟨wr.heap.size, 4, none⟩ = some (.int .i64 xa) := HW4.out.2.2.1.cell 4))
                            go_roundw
                            case rel => exact ⟨k + 1, by omega, by go_num, HR, HW4.out.1, HW4.out.2.1, HW4.out.2.2.2⟩
                            case measure => simp [intOf]; omega
                  · go_wp2_with fail
                    go_region_held3 (fun w' => w'.cell? ⟨w.heap.size, 0, none⟩ = some (.int .i64 sec) ∧ w'.cell? ⟨w.heap.size, 1, none⟩ = some (.slice a nd cap) ∧ w'.cell? ⟨w.heap.size + 1, 2, none⟩ = some (.slice da nd dc) ∧ w'.cell? ⟨wr.heap.size, 0, none⟩ = some (.int .i64 x0) ∧ w'.cell? ⟨wr.heap.size, 1, none⟩ = some (.int .i64 xc) ∧ w'.cell? ⟨wr.heap.size, 2, none⟩ = some (.bool xl) ∧ w'.cell? ⟨wr.heap.size, 3, none⟩ = some (.bool xs) ∧ w'.cell? ⟨wr.heap.size, 4, none⟩ = some (.int .i64 xa)) (go_keep) (first
                      | (go_at_call 38; refine (innT _ _ _ _ (by omega)).mono ?_; rintro e w2 ⟨rfl, rfl⟩)
                      | (go_at_call 38; refine (innF _ _ _ _ (by omega)).mono ?_; rintro e w2 ⟨rfl, rfl⟩)
                      | (go_at_call 57; refine (HTS.out _ HW.out.2.2.2).mono ?_; rintro e w3 ⟨rfl, hb3⟩; have HW3 : Hid (Box w3 w.heap.size 29 #[.int .i64 sec, .slice a nd cap] ∧ Box w3 (w.heap.size + 1) 42 #[.bool true, .slice (some ⟨b, off, none⟩) ns sc, .slice da nd dc] ∧ Box w3 wr.heap.size 84 #[.int .i64 x0, .int .i64 xc, .bool xl, .bool xs, .int .i64 xa] ∧ Below w.heap.size w w3) := ⟨HW.out.1.mono hb3 (Nat.le_refl _), HW.out.2.1.mono hb3 (Nat.le_refl _), HW.out.2.2.1.mono hb3 (Nat.le_refl _), HW.out.2.2.2.trans (hb3.mono HW.out.2.2.2.size)⟩; clear hb3; have m0 : w3.cell? ⟨w.heap.size, 0, none⟩ = some (.int .i64 sec) := HW3.out.1.cell 0; have m1 : w3.cell? ⟨w.heap.size, 1, none⟩ = some (.slice a nd cap) := HW3.out.1.cell 1; have m2 : w3.cell? ⟨w.heap.size + 1, 2, none⟩ = some (.slice da nd dc) := HW3.out.2.1.cell 2; have m3 : w3.cell? ⟨wr.heap.size, 0, none⟩ = some (.int .i64 x0) := HW3.out.2.2.1.cell 0; have m4 : w3.cell? ⟨wr.heap.size, 1, none⟩ = some (.int .i64 xc) := HW3.out.2.2.1.cell 1; have m5 : w3.cell? ⟨wr.heap.size, 2, none⟩ = some (.bool xl) := HW3.out.2.2.1.cell 2; have m6 : w3.cell? ⟨wr.heap.size, 3, none⟩ = some (.bool xs) := HW3.out.2.2.1.cell 3; have m7 : w3.cell? ⟨wr.heap.size, 4, none⟩ = some (.int .i64 xa) := HW3.out.2.2.1.cell 4))
                    have HR : Hid (coB sec nd K true ns nd S D = false) := HFk.out (by rw [HSK.out]; simp [h3])
                    have h3' : (x0 != t) = true := by simp [h3]
                    clear h3
                    go_wp2_with fail
                    go_ret
                    exact ⟨by rw [HR.out]; rfl, HW3.out.2.2.2⟩
                · have HR : Hid (coB sec nd K true ns nd S D = false) := HFk.out (by rw [HSK.out]; simp [h2])
                  go_wp2_with fail
                  go_quiet (first | (go_at_call 38; exact Calls.quiet_of_same (innT _ _ _ _ (by omega))) | (go_at_call 38; exact Calls.quiet_of_same (innF _ _ _ _ (by omega))))
                  go_wp2_with fail
                  go_ret
                  exact ⟨by rw [HR.out]; rfl, below_drewN HX.out _⟩
              · have HR : Hid (coB sec nd K true ns nd S D = false) := HFk.out (by rw [HSK.out]; simp [h1])
                go_wp2_with fail
                go_quiet (first | (go_at_call 38; exact Calls.quiet_of_same (innT _ _ _ _ (by omega))) | (go_at_call 38; exact Calls.quiet_of_same (innF _ _ _ _ (by omega))))
                go_wp2_with fail
                go_ret
                exact ⟨by rw [HR.out]; rfl, below_drewN HX.out _⟩
            · obtain rfl : k = ns := by omega
              have HR : Hid (coB sec nd K true k nd S D = true) := HT.out hall.out
              go_wp2_with fail
              go_ret
              exact ⟨by rw [HR.out]; rfl, HHr.out.2.2⟩
        · have HR : Hid (coB sec n K true ns nd S D = false) := coB_false fun h => e2 h.2.2.2.1
          have e1' : ((ns : Int) != sec) = false := by simp [e1]
          have e2' : ((nd : Int) != (n : Int)) = true := by simp; omega
          clear e1 e2
          go_wp2_with fail
          go_ret
          exact ⟨by rw [HR.out]; rfl, HH.out.2.2⟩
      · have HR : Hid (coB sec n K true ns nd S D = false) := coB_false fun h => e1 h.2.2.1
        have e1' : ((ns : Int) != sec) = true := by simp [e1]
        clear e1
        go_wp2_with fail
        go_ret
        exact ⟨by rw [HR.out]; rfl, HH.out.2.2⟩
  · have HR : Hid (coB sec n K ok ns nd S D = false) := coB_false fun h => hok h.1
    generalize layOk sec n K = r at hok
    go_wp2_with fail
    go_ret
    exact ⟨by rw [HR.out]; rfl, HH.out.2.2⟩

end Go.Proofs.Ytmcaohablpaknaa
