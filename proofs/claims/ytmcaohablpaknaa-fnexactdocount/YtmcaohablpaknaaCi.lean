import Derived.Test.YtmcaohablpaknaaCm
namespace Go.Proofs.Ytmcaohablpaknaa
open Go.RowKit Go.ChangeShapes Go.WideShapes

/-- a counting at work -/
structure CtIn (w : World) (c b : Nat) (sec : Int) (a : Option Addr) (n cap : Nat) (K : Nat → Nat → Int) (ok : Bool) (sa : Option Addr) (sc : Nat) (da : Option Addr) (dc ns : Nat) (S : Nat → Sec) (D : Nat → Bool) : Prop where
  box : Box w c 93 #[.int .i64 sec, .slice a n cap, .map (some b), .bool ok, .slice sa ns sc, .slice da n dc]
  rings : Rings w b K n
  cnt : VsAt 2 0 w a n (intF K)
  s : VsAt 5 0 w sa ns (secF S)
  d : VsAt 1 0 w da n (boolF D)
theorem CtIn.mono {w w' : World} {c b : Nat} {sec : Int} {a : Option Addr} {n cap : Nat} {K : Nat → Nat → Int} {ok : Bool} {sa : Option Addr} {sc : Nat} {da : Option Addr} {dc ns : Nat} {S : Nat → Sec} {D : Nat → Bool} {M : Nat} (h : CtIn w c b sec a n cap K ok sa sc da dc ns S D) (hb : Below M w w') (hM : w.heap.size ≤ M) : CtIn w' c b sec a n cap K ok sa sc da dc ns S D :=
  ⟨h.box.mono hb hM, h.rings.mono hb hM, h.cnt.mono (Nat.le_refl _) hb hM, h.s.mono (Nat.le_refl _) hb hM, h.d.mono (Nat.le_refl _) hb hM⟩

set_option maxRecDepth 10000 in
set_option maxHeartbeats 4000000 in
theorem deadI (c b : Nat) (sec : Int) (a : Option Addr) (n cap : Nat) (K : Nat → Nat → Int) (ok : Bool) (sa : Option Addr) (sc : Nat) (da : Option Addr) (dc ns : Nat) (S : Nat → Sec) (D : Nat → Bool) (s : Int) (w : World) (n120 : n ≤ 120) (hs : 0 ≤ s ∧ s ≤ 59) (h : CtIn w c b sec a n cap K ok sa sc da dc ns S D) :
    Calls Try.prog 76 #[.pointer (some ⟨c, 0, none⟩), .int .i64 s] w fun e w' => e = .returned (.bool (deadB K n D s)) ∧ w' = w := by
  obtain ⟨v, p1, p2⟩ := h.rings.at n120 (s := s) (by omega)
  have q0 := p1 w rfl
  have V1 := VOwn.of_ints p2
  have hz := arN_len K s n
  have hz' : ∀ k, k < (arN K s n).length → ∃ i : Nat, (arN K s n).getD k 0 = i ∧ i < n := fun k hk => arN_getD hk
  have HT : Hid (∀ k, k < (arN K s n).length → D ((arN K s n).getD k 0).toNat = true → deadB K n D s = true) := fun k hk h => any_true hk h
  have HN : Hid ((∀ j, j < (arN K s n).length → D ((arN K s n).getD j 0).toNat = false) → deadB K n D s = false) := fun h => any_false h
  have x2 : w.cell? ⟨c, 2, none⟩ = some (.map (some b)) := h.box.cell 2
  have x5 : w.cell? ⟨c, 5, none⟩ = some (.slice da n dc) := h.box.cell 5
  obtain ⟨va, vc, rfl⟩ := V1.val
  generalize arN K s n = zs at *
  have HV : Hid (VsAt 1 0 w va zs.length (intF (lsI zs))) := V1.vs.le (Nat.zero_le _)
  have HZ : Hid (∀ k, k < zs.length → ∃ i : Nat, zs.getD k 0 = i ∧ i < n) := hz'
  have HD : Hid (VsAt 1 0 w da n (boolF D)) := h.d
  clear p1 p2 V1 h hz'
  go_enter Try.func76, Try.ntmps76
  go_wp2_with fail
  go_loop [14] (fun i => ∃ k : Nat, k ≤ zs.length ∧ i = .int .i64 k ∧ Hid (∀ j, j < k → D (zs.getD j 0).toNat = false)) (fun i => zs.length - (intOf i).toNat)
  case atStart => exact ⟨0, Nat.zero_le _, rfl, fun j hj => absurd hj (Nat.not_lt_zero _)⟩
  case round =>
    obtain ⟨k, hk, rfl, hall⟩ := hrel
    by_cases hlt : k < zs.length
    · obtain ⟨i, hi, hin⟩ := HZ.out k hlt
      obtain ⟨b1, off, rfl, _, _, hc⟩ := HV.out (by omega)
      obtain ⟨b', off', rfl, _, _, hc'⟩ := HD.out (by omega)
      have c0 : w.cell? ⟨b1, off + k, none⟩ = some (.int .i64 (i : Int)) := by have := hc k hlt 0 (by omega); rw [Nat.mul_one] at this; rw [show off + k = off + k + 0 from rfl, this]; show some (Value.int .i64 (zs.getD k 0)) = _; rw [hi]
      have d0 : w.cell? ⟨b', off' + i, none⟩ = some (.bool (D i)) := by have := hc' i hin 0 (by omega); rwa [Nat.mul_one] at this
      have hi0 : (0 : Int) ≤ (i : Int) := by omega
      have hi1 : (i : Int) < (n : Int) := by omega
      have HI : Hid (zs.getD k 0 = i) := hi
      clear hc hc' hi
      cases hDi : D i
      · have HA : Hid (∀ j, j < k + 1 → D (zs.getD j 0).toNat = false) := fun j hj => by
          by_cases e : j = k
          · subst e
            rw [HI.out]
            exact hDi
          · exact hall.out j (by omega)
        rw [hDi] at d0
        clear hDi
        go_wp2_with fail
        go_round
        case rel => exact ⟨k + 1, by omega, by go_num, HA⟩
        case measure => simp [intOf]; omega
      · have HR : Hid (deadB K n D s = true) := HT.out k hlt (by rw [HI.out]; exact hDi)
        rw [hDi] at d0
        clear hDi
        go_wp2_with fail
        go_ret
        exact ⟨by rw [HR.out]; rfl, rfl⟩
    · have HR : Hid (deadB K n D s = false) := HN.out fun j hj => hall.out j (by omega)
      go_wp2_with fail
      go_ret
      exact ⟨by rw [HR.out]; rfl, rfl⟩

set_option maxRecDepth 10000 in
set_option maxHeartbeats 4000000 in
theorem toldI (c b : Nat) (sec : Int) (a : Option Addr) (n cap : Nat) (K : Nat → Nat → Int) (ok : Bool) (sa : Option Addr) (sc : Nat) (da : Option Addr) (dc ns : Nat) (S : Nat → Sec) (D : Nat → Bool) (k : Nat) (w : World) (n120 : n ≤ 120) (n60 : ns ≤ 60) (hk : k < ns) (h : CtIn w c b sec a n cap K ok sa sc da dc ns S D) :
    Calls Try.prog 70 #[.pointer (some ⟨c, 0, none⟩), .int .i64 k] w fun e w' => e = .returned (.int .i64 (toldF (deadB K n D k) (S k))) ∧ Below w.heap.size w w' := by
  have x4 : w.cell? ⟨c, 4, none⟩ = some (.slice sa ns sc) := h.box.cell 4
  obtain ⟨b1, off, rfl, _, hb, hc⟩ := h.s (by omega)
  have c0 : w.cell? ⟨b1, off + k * 5, none⟩ = some (.int .i64 (S k).told) := hc k hk 0 (by omega)
  have c1 : w.cell? ⟨b1, off + k * 5 + 1, none⟩ = some (.int .i64 (S k).count) := hc k hk 1 (by omega)
  have c2 : w.cell? ⟨b1, off + k * 5 + 2, none⟩ = some (.bool (S k).lost) := hc k hk 2 (by omega)
  have c3 : w.cell? ⟨b1, off + k * 5 + 3, none⟩ = some (.bool (S k).sweep) := hc k hk 3 (by omega)
  have c4 : w.cell? ⟨b1, off + k * 5 + 4, none⟩ = some (.int .i64 (S k).last) := hc k hk 4 (by omega)
  have hk0 : (0 : Int) ≤ (k : Int) := by omega
  have hk1 : (k : Int) < (ns : Int) := by omega
  obtain ⟨x, hx⟩ : ∃ x, Hid (S k = x) := ⟨_, rfl⟩
  rw [hx.out] at c0 c1 c2 c3 c4
  obtain ⟨x0, xc, xl, xs, xa⟩ := x
  have HC : Hid (CtIn w c b sec a n cap K ok (some ⟨b1, off, none⟩) sc da dc ns S D) := h
  clear hc h
  go_enter Try.func70, Try.ntmps70
  go_wp2_with fail
  have B0 := bel1 w (.cells #[.int .i64 x0, .int .i64 xc, .bool xl, .bool xs, .int .i64 xa] 84)
  have X0 := Box.new w 84 #[.int .i64 x0, .int .i64 xc, .bool xl, .bool xs, .int .i64 xa]
  clear c0 c1 c2 c3 c4 x4
  refine (deadI c b sec a n cap K ok (some ⟨b1, off, none⟩) sc da dc ns S D k _ n120 (by omega) (HC.out.mono B0 (Nat.le_refl _))).mono ?_
  rintro e w1 ⟨rfl, rfl⟩
  have HB : Hid (Below w.heap.size w (w.alloc (.cells #[.int .i64 x0, .int .i64 xc, .bool xl, .bool xs, .int .i64 xa] 84))) := B0
  have y1 : (w.alloc (.cells #[.int .i64 x0, .int .i64 xc, .bool xl, .bool xs, .int .i64 xa] 84)).cell? ⟨w.heap.size, 1, none⟩ = some (.int .i64 xc) := X0.cell 1
  have y2 : (w.alloc (.cells #[.int .i64 x0, .int .i64 xc, .bool xl, .bool xs, .int .i64 xa] 84)).cell? ⟨w.heap.size, 2, none⟩ = some (.bool xl) := X0.cell 2
  have y3 : (w.alloc (.cells #[.int .i64 x0, .int .i64 xc, .bool xl, .bool xs, .int .i64 xa] 84)).cell? ⟨w.heap.size, 3, none⟩ = some (.bool xs) := X0.cell 3
  clear X0 B0
  have HT : Hid (∀ d, toldF d ⟨x0, xc, xl, xs, xa⟩ = if d then 3 else if xl || (xc != 0 && !xs) then 1 else if xs then 2 else 0) := fun d => rfl
  obtain ⟨d, hd⟩ : ∃ d, Hid (deadB K n D k = d) := ⟨_, rfl⟩
  rw [hd.out]
  by_cases hc : xc = 0
  · subst hc
    cases d <;> cases xl <;> cases xs
    all_goals
      go_wp2_with fail
      go_ret
      exact ⟨by rw [hd.out, hx.out, HT.out]; (first | rfl | (simp; done)), HB.out⟩
  · have hc' : (xc != 0) = true := by simp [hc]
    cases d <;> cases xl <;> cases xs
    all_goals
      go_wp2_with fail
      go_ret
      exact ⟨by rw [hd.out, hx.out, HT.out]; (first | rfl | (simp; done) | (simp [hc]; done)), HB.out⟩

set_option maxRecDepth 10000 in
set_option maxHeartbeats 8000000 in
theorem secI (c b : Nat) (sec : Int) (a : Option Addr) (n cap : Nat) (K : Nat → Nat → Int) (ok : Bool) (sa : Option Addr) (sc : Nat) (da : Option Addr) (dc ns : Nat) (S : Nat → Sec) (D : Nat → Bool) (k : Nat) (w : World) (n120 : n ≤ 120) (n60 : ns ≤ 60) (hk : k < ns) (h : CtIn w c b sec a n cap K ok sa sc da dc ns S D) :
    Calls Try.prog 67 #[.pointer (some ⟨c, 0, none⟩), .int .i64 k] w fun e w' => e = .returned (.bool (secOk (deadB K n D k) (S k))) ∧ Below w.heap.size w w' := by
  have x4 : w.cell? ⟨c, 4, none⟩ = some (.slice sa ns sc) := h.box.cell 4
  obtain ⟨b1, off, rfl, _, hb, hc⟩ := h.s (by omega)
  have c0 : w.cell? ⟨b1, off + k * 5, none⟩ = some (.int .i64 (S k).told) := hc k hk 0 (by omega)
  have c1 : w.cell? ⟨b1, off + k * 5 + 1, none⟩ = some (.int .i64 (S k).count) := hc k hk 1 (by omega)
  have c2 : w.cell? ⟨b1, off + k * 5 + 2, none⟩ = some (.bool (S k).lost) := hc k hk 2 (by omega)
  have c3 : w.cell? ⟨b1, off + k * 5 + 3, none⟩ = some (.bool (S k).sweep) := hc k hk 3 (by omega)
  have c4 : w.cell? ⟨b1, off + k * 5 + 4, none⟩ = some (.int .i64 (S k).last) := hc k hk 4 (by omega)
  have hk0 : (0 : Int) ≤ (k : Int) := by omega
  have hk1 : (k : Int) < (ns : Int) := by omega
  obtain ⟨x, hx⟩ : ∃ x, Hid (S k = x) := ⟨_, rfl⟩
  rw [hx.out] at c0 c1 c2 c3 c4
  obtain ⟨x0, xc, xl, xs, xa⟩ := x
  have HC : Hid (CtIn w c b sec a n cap K ok (some ⟨b1, off, none⟩) sc da dc ns S D) := h
  clear hc h
  obtain ⟨d, hd⟩ : ∃ d, Hid (deadB K n D k = d) := ⟨_, rfl⟩
  obtain ⟨t, ht⟩ : ∃ t, Hid (toldF d ⟨x0, xc, xl, xs, xa⟩ = t) := ⟨_, rfl⟩
  have h3d : Hid (t = 3 ↔ d = true) := by
    show t = 3 ↔ d = true
    rw [← ht.out]
    cases d
    · have hne : toldF false ⟨x0, xc, xl, xs, xa⟩ ≠ 3 := by
        unfold toldF
        by_cases hc0 : xc = 0
        · cases xl <;> cases xs <;> simp [hc0]
        · cases xl <;> cases xs <;> simp [hc0]
      exact ⟨fun e => absurd e hne, fun e => by cases e⟩
    · exact ⟨fun _ => rfl, fun _ => rfl⟩
  have HSK : Hid (secOk (deadB K n D k) (S k) = (decide (-1000000 ≤ xc ∧ xc ≤ 1000000) && decide (-1 ≤ xa ∧ xa ≤ 1) && decide (x0 = t) && !((decide (xc < 0) && !xl) || (d && !xl) || (xs && decide (xc = 0) && decide (xa = -1) && !xl)))) := by
    show secOk (deadB K n D k) (S k) = _
    rw [hd.out, hx.out, ← ht.out]
    rfl
  have HTS : Hid (∀ W : World, Below w.heap.size w W → Calls Try.prog 70 #[.pointer (some ⟨c, 0, none⟩), .int .i64 k] W fun e w' => e = .returned (.int .i64 t) ∧ Below W.heap.size W w') := fun W hW => by
    have := toldI c b sec a n cap K ok (some ⟨b1, off, none⟩) sc da dc ns S D k W n120 n60 hk (HC.out.mono hW (Nat.le_refl _))
    rw [hd.out, hx.out, ht.out] at this
    exact this
  clear hd hx ht
  go_enter Try.func67, Try.ntmps67
  go_wp2_with fail
  have B0 := bel1 w (.cells #[.int .i64 x0, .int .i64 xc, .bool xl, .bool xs, .int .i64 xa] 84)
  have X0 := Box.new w 84 #[.int .i64 x0, .int .i64 xc, .bool xl, .bool xs, .int .i64 xa]
  clear c0 c1 c2 c3 c4 x4
  refine (HTS.out _ B0).mono ?_
  rintro e w1 ⟨rfl, hb1⟩
  have X1 := X0.mono hb1 (Nat.le_refl _)
  have HB : Hid (Below w.heap.size w w1) := B0.trans (hb1.mono B0.size)
  have y0 : w1.cell? ⟨w.heap.size, 0, none⟩ = some (.int .i64 x0) := X1.cell 0
  have y1 : w1.cell? ⟨w.heap.size, 1, none⟩ = some (.int .i64 xc) := X1.cell 1
  have y2 : w1.cell? ⟨w.heap.size, 2, none⟩ = some (.bool xl) := X1.cell 2
  have y3 : w1.cell? ⟨w.heap.size, 3, none⟩ = some (.bool xs) := X1.cell 3
  have y4 : w1.cell? ⟨w.heap.size, 4, none⟩ = some (.int .i64 xa) := X1.cell 4
  clear X0 B0 X1 hb1 HC
  by_cases h1 : -1000000 ≤ xc ∧ xc ≤ 1000000
  · by_cases h2 : -1 ≤ xa ∧ xa ≤ 1
    · by_cases h3 : x0 = t
      · subst h3
        cases xl
        · by_cases hn : xc < 0
          · have HR : Hid (secOk (deadB K n D k) (S k) = false) := by
              show secOk _ _ = false
              rw [HSK.out]
              simp [hn]
            have hng : ¬ 0 ≤ xc := by omega
            by_cases hz : xc = 0
            · omega
            · have hz2 : (xc == 0) = false := by simp [hz]
              cases xs
              all_goals
                go_wp2_with (first | (go_at_call 40; refine (withinT _ _ _ _ (by omega)).mono ?_; rintro e w2 ⟨rfl, rfl⟩) | (go_at_call 40; refine (withinF _ _ _ _ (by omega)).mono ?_; rintro e w2 ⟨rfl, rfl⟩))
                go_ret
                exact ⟨by rw [HR.out]; rfl, HB.out⟩
          · have hge : 0 ≤ xc := by omega
            cases d
            · have ht3 : ¬ x0 = 3 := fun e => by have := h3d.out.1 e; cases this
              have ht3' : (x0 != 3) = true := by simp [ht3]
              cases xs
              · have HR : Hid (secOk (deadB K n D k) (S k) = true) := by
                  show secOk _ _ = true
                  rw [HSK.out]
                  simp [h1, h2, hn]
                go_wp2_with (first | (go_at_call 40; refine (withinT _ _ _ _ (by omega)).mono ?_; rintro e w2 ⟨rfl, rfl⟩) | (go_at_call 40; refine (withinF _ _ _ _ (by omega)).mono ?_; rintro e w2 ⟨rfl, rfl⟩))
                go_ret
                exact ⟨by rw [HR.out]; (first | rfl | (simp; done)), HB.out⟩
              · by_cases hz : xc = 0
                · subst hz
                  by_cases hl : xa = -1
                  · subst hl
                    have HR : Hid (secOk (deadB K n D k) (S k) = false) := by
                      show secOk _ _ = false
                      rw [HSK.out]
                      simp
                    go_wp2_with (first | (go_at_call 40; refine (withinT _ _ _ _ (by omega)).mono ?_; rintro e w2 ⟨rfl, rfl⟩) | (go_at_call 40; refine (withinF _ _ _ _ (by omega)).mono ?_; rintro e w2 ⟨rfl, rfl⟩))
                    go_ret
                    exact ⟨by rw [HR.out]; (first | rfl | (simp; done)), HB.out⟩
                  · have HR : Hid (secOk (deadB K n D k) (S k) = true) := by
                      show secOk _ _ = true
                      rw [HSK.out]
                      simp [h2, hl]
                    have hl2 : (xa == -1) = false := by simp [hl]
                    go_wp2_with (first | (go_at_call 40; refine (withinT _ _ _ _ (by omega)).mono ?_; rintro e w2 ⟨rfl, rfl⟩) | (go_at_call 40; refine (withinF _ _ _ _ (by omega)).mono ?_; rintro e w2 ⟨rfl, rfl⟩))
                    go_ret
                    exact ⟨by rw [HR.out]; (first | rfl | (simp; done)), HB.out⟩
                · have hz2 : (xc == 0) = false := by simp [hz]
                  have HR : Hid (secOk (deadB K n D k) (S k) = true) := by
                    show secOk _ _ = true
                    rw [HSK.out]
                    simp [h1, h2, hz, hn]
                  go_wp2_with (first | (go_at_call 40; refine (withinT _ _ _ _ (by omega)).mono ?_; rintro e w2 ⟨rfl, rfl⟩) | (go_at_call 40; refine (withinF _ _ _ _ (by omega)).mono ?_; rintro e w2 ⟨rfl, rfl⟩))
                  go_ret
                  exact ⟨by rw [HR.out]; (first | rfl | (simp; done)), HB.out⟩
            · obtain rfl : x0 = 3 := h3d.out.2 rfl
              have HR : Hid (secOk (deadB K n D k) (S k) = false) := by
                show secOk _ _ = false
                rw [HSK.out]
                simp
              cases xs
              · go_wp2_with (first | (go_at_call 40; refine (withinT _ _ _ _ (by omega)).mono ?_; rintro e w2 ⟨rfl, rfl⟩) | (go_at_call 40; refine (withinF _ _ _ _ (by omega)).mono ?_; rintro e w2 ⟨rfl, rfl⟩))
                go_ret
                exact ⟨by rw [HR.out]; (first | rfl | (simp; done)), HB.out⟩
              · by_cases hz : xc = 0
                · subst hz
                  by_cases hl : xa = -1
                  · subst hl
                    go_wp2_with (first | (go_at_call 40; refine (withinT _ _ _ _ (by omega)).mono ?_; rintro e w2 ⟨rfl, rfl⟩) | (go_at_call 40; refine (withinF _ _ _ _ (by omega)).mono ?_; rintro e w2 ⟨rfl, rfl⟩))
                    go_ret
                    exact ⟨by rw [HR.out]; (first | rfl | (simp; done)), HB.out⟩
                  · have hl2 : (xa == -1) = false := by simp [hl]
                    go_wp2_with (first | (go_at_call 40; refine (withinT _ _ _ _ (by omega)).mono ?_; rintro e w2 ⟨rfl, rfl⟩) | (go_at_call 40; refine (withinF _ _ _ _ (by omega)).mono ?_; rintro e w2 ⟨rfl, rfl⟩))
                    go_ret
                    exact ⟨by rw [HR.out]; (first | rfl | (simp; done)), HB.out⟩
                · have hz2 : (xc == 0) = false := by simp [hz]
                  go_wp2_with (first | (go_at_call 40; refine (withinT _ _ _ _ (by omega)).mono ?_; rintro e w2 ⟨rfl, rfl⟩) | (go_at_call 40; refine (withinF _ _ _ _ (by omega)).mono ?_; rintro e w2 ⟨rfl, rfl⟩))
                  go_ret
                  exact ⟨by rw [HR.out]; (first | rfl | (simp; done)), HB.out⟩
        · have HR : Hid (secOk (deadB K n D k) (S k) = true) := by
            show secOk _ _ = true
            rw [HSK.out]
            simp [h1, h2]
          go_wp2_with (first | (go_at_call 40; refine (withinT _ _ _ _ (by omega)).mono ?_; rintro e w2 ⟨rfl, rfl⟩) | (go_at_call 40; refine (withinF _ _ _ _ (by omega)).mono ?_; rintro e w2 ⟨rfl, rfl⟩))
          go_ret
          exact ⟨by rw [HR.out]; rfl, HB.out⟩
      · have h3' : (x0 != t) = true := by simp [h3]
        have HR : Hid (secOk (deadB K n D k) (S k) = false) := by
          show secOk _ _ = false
          rw [HSK.out]
          simp [h3]
        clear h3
        go_wp2_with (first | (go_at_call 40; refine (withinT _ _ _ _ (by omega)).mono ?_; rintro e w2 ⟨rfl, rfl⟩) | (go_at_call 40; refine (withinF _ _ _ _ (by omega)).mono ?_; rintro e w2 ⟨rfl, rfl⟩))
        go_ret
        exact ⟨by rw [HR.out]; rfl, HB.out⟩
    · have HR : Hid (secOk (deadB K n D k) (S k) = false) := by
        show secOk _ _ = false
        rw [HSK.out]
        simp [h2]
      go_wp2_with (first | (go_at_call 40; refine (withinT _ _ _ _ (by omega)).mono ?_; rintro e w2 ⟨rfl, rfl⟩) | (go_at_call 40; refine (withinF _ _ _ _ (by omega)).mono ?_; rintro e w2 ⟨rfl, rfl⟩))
      go_ret
      exact ⟨by rw [HR.out]; rfl, HB.out⟩
  · have HR : Hid (secOk (deadB K n D k) (S k) = false) := by
      show secOk _ _ = false
      rw [HSK.out]
      simp [h1]
    go_wp2_with (first | (go_at_call 40; refine (withinT _ _ _ _ (by omega)).mono ?_; rintro e w2 ⟨rfl, rfl⟩) | (go_at_call 40; refine (withinF _ _ _ _ (by omega)).mono ?_; rintro e w2 ⟨rfl, rfl⟩))
    go_ret
    exact ⟨by rw [HR.out]; rfl, HB.out⟩

end Go.Proofs.Ytmcaohablpaknaa
