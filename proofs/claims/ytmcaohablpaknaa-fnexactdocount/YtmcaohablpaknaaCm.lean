import Derived.Test.YtmcaohablpaknaaAr
namespace Go.Proofs.Ytmcaohablpaknaa
open Go.RowKit Go.ChangeShapes Go.WideShapes

/-- one of the counters around a section is dead -/
def deadB (K : Nat → Nat → Int) (n : Nat) (D : Nat → Bool) (s : Int) : Bool := (arN K s n).any fun z => D z.toNat
/-- what is told of a section -/
def toldF (dead : Bool) (x : Sec) : Int := if dead then 3 else if x.lost || (x.count != 0 && !x.sweep) then 1 else if x.sweep then 2 else 0
/-- what is asked of a section -/
def secOk (dead : Bool) (x : Sec) : Bool :=
  decide (-1000000 ≤ x.count ∧ x.count ≤ 1000000) && decide (-1 ≤ x.last ∧ x.last ≤ 1) && decide (x.told = toldF dead x) &&
    !((decide (x.count < 0) && !x.lost) || (dead && !x.lost) || (x.sweep && decide (x.count = 0) && decide (x.last = -1) && !x.lost))
theorem any_true {zs : List Int} {D : Nat → Bool} {k : Nat} (hk : k < zs.length) (h : D (zs.getD k 0).toNat = true) : zs.any (fun z => D z.toNat) = true := by
  rw [List.any_eq_true]
  refine ⟨zs[k], List.getElem_mem hk, ?_⟩
  rwa [List.getD_eq_getElem?_getD, List.getElem?_eq_getElem hk] at h
theorem any_false {zs : List Int} {D : Nat → Bool} (h : ∀ j, j < zs.length → D (zs.getD j 0).toNat = false) : zs.any (fun z => D z.toNat) = false := by
  rw [List.any_eq_false]
  intro z hz
  obtain ⟨k, hk, rfl⟩ := List.getElem_of_mem hz
  have := h k hk
  rw [List.getD_eq_getElem?_getD, List.getElem?_eq_getElem hk] at this
  simpa using this
theorem arN_getD {K : Nat → Nat → Int} {s : Int} {n k : Nat} (hk : k < (arN K s n).length) : ∃ i : Nat, (arN K s n).getD k 0 = i ∧ i < n := by
  obtain ⟨i, h1, h2, _⟩ := arN_mem (List.getElem_mem hk)
  exact ⟨i, by rw [List.getD_eq_getElem?_getD, List.getElem?_eq_getElem hk]; exact h1, h2⟩

set_option maxRecDepth 10000 in
set_option maxHeartbeats 4000000 in
theorem deadS (sec : Int) (a : Option Addr) (n cap : Nat) (K : Nat → Nat → Int) (da : Option Addr) (dc : Nat) (D : Nat → Bool) (s : Int) (w : World) (hok : layOk sec n K = 0) (hs : 0 ≤ s ∧ s ≤ sec - 1) (hE : VsAt 2 0 w a n (intF K)) (hD : VsAt 1 0 w da n (boolF D)) :
    Calls Try.prog 56 #[.agg #[.int .i64 sec, .slice a n cap], .slice da n dc, .int .i64 s] w fun e w' => e = .returned (.bool (deadB K n D s)) ∧ Below w.heap.size w w' := by
  have n120 := (layGood hok).m
  have hF : arF sec n K s = arN K s n := by unfold arF; rw [if_pos ⟨hok, hs⟩]
  have HE : Hid (VsAt 2 0 w a n (intF K) ∧ VsAt 1 0 w da n (boolF D)) := ⟨hE, hD⟩
  clear hE hD hok
  go_enter Try.func56, Try.ntmps56
  go_wp2_with fail
  have B0 := bel1 w (.cells #[.int .i64 sec, .slice a n cap] 29)
  refine (arS sec a n cap K s _ (by omega) (HE.out.1.mono (Nat.le_refl _) B0 (Nat.le_refl _))).mono ?_
  rintro e w1 ⟨v, rfl, o1, hb1⟩
  rw [hF] at o1
  have B1 := B0.trans (hb1.mono B0.size)
  have V1 := VOwn.of_ints o1
  have hz := arN_len K s n
  have hz' : ∀ k, k < (arN K s n).length → ∃ i : Nat, (arN K s n).getD k 0 = i ∧ i < n := fun k hk => arN_getD hk
  have HB : Hid (Below w.heap.size w w1) := B1
  have HT : Hid (∀ k, k < (arN K s n).length → D ((arN K s n).getD k 0).toNat = true → deadB K n D s = true) := fun k hk h => any_true hk h
  have HN : Hid ((∀ j, j < (arN K s n).length → D ((arN K s n).getD j 0).toNat = false) → deadB K n D s = false) := fun h => any_false h
  obtain ⟨va, vc, rfl⟩ := V1.val
  generalize arN K s n = zs at *
  have HV : Hid (VsAt 1 0 w1 va zs.length (intF (lsI zs))) := V1.vs.le (Nat.zero_le _)
  have HZ : Hid (∀ k, k < zs.length → ∃ i : Nat, zs.getD k 0 = i ∧ i < n) := hz'
  have HD : Hid (VsAt 1 0 w1 da n (boolF D)) := HE.out.2.mono (Nat.le_refl _) B1 (Nat.le_refl _)
  clear o1 V1 B0 B1 hb1 hz' hF
  go_wp2_with fail
  go_loop [13] (fun i => ∃ k : Nat, k ≤ zs.length ∧ i = .int .i64 k ∧ Hid (∀ j, j < k → D (zs.getD j 0).toNat = false)) (fun i => zs.length - (intOf i).toNat)
  case atStart => exact ⟨0, Nat.zero_le _, rfl, fun j hj => absurd hj (Nat.not_lt_zero _)⟩
  case round =>
    obtain ⟨k, hk, rfl, hall⟩ := hrel
    by_cases hlt : k < zs.length
    · obtain ⟨i, hi, hin⟩ := HZ.out k hlt
      obtain ⟨b, off, rfl, _, _, hc⟩ := HV.out (by omega)
      obtain ⟨b', off', rfl, _, _, hc'⟩ := HD.out (by omega)
      have c0 : w1.cell? ⟨b, off + k, none⟩ = some (.int .i64 (i : Int)) := by have := hc k hlt 0 (by omega); rw [Nat.mul_one] at this; rw [show off + k = off + k + 0 from rfl, this]; show some (Value.int .i64 (zs.getD k 0)) = _; rw [hi]
      have d0 : w1.cell? ⟨b', off' + i, none⟩ = some (.bool (D i)) := by have := hc' i hin 0 (by omega); rwa [Nat.mul_one] at this
      have hi0 : (0 : Int) ≤ (i : Int) := by omega
      have hi1 : (i : Int) < (n : Int) := by omega
      have HI : Hid (zs.getD k 0 = i) := hi
      clear hc hc' hi
      cases hDi : D i
      · have HA : Hid (∀ j, j < k + 1 → D (zs.getD j 0).toNat = false) := fun j hj => by
          by_cases e : j = k
          · subst e
            rw [HI.out]
            exact hDi
          · exact hall.out j (by omega)
        rw [hDi] at d0
        clear hDi
        go_wp2_with fail
        go_round
        case rel => exact ⟨k + 1, by omega, by go_num, HA⟩
        case measure => simp [intOf]; omega
      · have HR : Hid (deadB K n D s = true) := HT.out k hlt (by rw [HI.out]; exact hDi)
        rw [hDi] at d0
        clear hDi
        go_wp2_with fail
        go_ret
        exact ⟨by rw [HR.out]; rfl, HB.out⟩
    · have HR : Hid (deadB K n D s = false) := HN.out fun j hj => hall.out j (by omega)
      go_wp2_with fail
      go_ret
      exact ⟨by rw [HR.out]; rfl, HB.out⟩

set_option maxRecDepth 10000 in
set_option maxHeartbeats 4000000 in
theorem toldS (sec : Int) (a : Option Addr) (n cap : Nat) (K : Nat → Nat → Int) (da : Option Addr) (dc : Nat) (D : Nat → Bool) (s : Int) (x : Sec) (w : World) (hok : layOk sec n K = 0) (hs : 0 ≤ s ∧ s ≤ sec - 1) (hE : VsAt 2 0 w a n (intF K)) (hD : VsAt 1 0 w da n (boolF D)) :
    Calls Try.prog 57 #[.agg #[.int .i64 sec, .slice a n cap], .slice da n dc, .int .i64 s, .agg #[.int .i64 x.told, .int .i64 x.count, .bool x.lost, .bool x.sweep, .int .i64 x.last]] w fun e w' => e = .returned (.int .i64 (toldF (deadB K n D s) x)) ∧ Below w.heap.size w w' := by
  have HE : Hid (VsAt 2 0 w a n (intF K) ∧ VsAt 1 0 w da n (boolF D)) := ⟨hE, hD⟩
  clear hE hD
  go_enter Try.func57, Try.ntmps57
  go_wp2_with fail
  have B0 := bel2 w (.cells #[.int .i64 sec, .slice a n cap] 29) (.cells #[.int .i64 x.told, .int .i64 x.count, .bool x.lost, .bool x.sweep, .int .i64 x.last] 84)
  have X0 := Box.new (w.alloc (.cells #[.int .i64 sec, .slice a n cap] 29)) 84 #[.int .i64 x.told, .int .i64 x.count, .bool x.lost, .bool x.sweep, .int .i64 x.last]
  rw [show (w.alloc (.cells #[.int .i64 sec, .slice a n cap] 29)).heap.size = w.heap.size + 1 by simp] at X0
  refine (deadS sec a n cap K da dc D s _ hok hs (HE.out.1.mono (Nat.le_refl _) B0 (Nat.le_refl _)) (HE.out.2.mono (Nat.le_refl _) B0 (Nat.le_refl _))).mono ?_
  rintro e w1 ⟨rfl, hb1⟩
  have X1 := X0.mono hb1 (Nat.le_refl _)
  have HB : Hid (Below w.heap.size w w1) := B0.trans (hb1.mono B0.size)
  have c1 : w1.cell? ⟨w.heap.size + 1, 1, none⟩ = some (.int .i64 x.count) := X1.cell 1
  have c2 : w1.cell? ⟨w.heap.size + 1, 2, none⟩ = some (.bool x.lost) := X1.cell 2
  have c3 : w1.cell? ⟨w.heap.size + 1, 3, none⟩ = some (.bool x.sweep) := X1.cell 3
  clear X0 X1 B0 hb1 hok
  obtain ⟨x0, xc, xl, xs, xa⟩ := x
  have HT : Hid (∀ d, toldF d ⟨x0, xc, xl, xs, xa⟩ = if d then 3 else if xl || (xc != 0 && !xs) then 1 else if xs then 2 else 0) := fun d => rfl
  obtain ⟨d, hd⟩ : ∃ d, Hid (deadB K n D s = d) := ⟨_, rfl⟩
  rw [hd.out]
  by_cases hc : xc = 0
  · subst hc
    cases d <;> cases xl <;> cases xs
    all_goals
      go_wp2_with fail
      go_ret
      exact ⟨by rw [hd.out, HT.out]; (first | rfl | (simp; done)), HB.out⟩
  · have hc' : (xc != 0) = true := by simp [hc]
    cases d <;> cases xl <;> cases xs
    all_goals
      go_wp2_with fail
      go_ret
      exact ⟨by rw [hd.out, HT.out]; (first | rfl | (simp; done) | (simp [hc]; done)), HB.out⟩

end Go.Proofs.Ytmcaohablpaknaa
