import Derived.Test.YtdkjgedkmnoglaaSigA
namespace Go.Proofs.Ytdkjgedkmnoglaa
open Go.RowKit

set_option maxHeartbeats 2000000 in
theorem clashes35 (a : Option Addr) (k cap : Nat) (S : Nat → Pc) (s : Pc) (w : World) (hn : k ≤ 1048576) (hS : PsAt 0 w a k S) :
    Calls Try.prog 35 #[.slice a k cap, .agg #[.string s.nm, .int .i64 s.ln, .int .i64 s.sp, .int .i64 s.br]] w fun e w' => e = .returned (.bool (clashB S s k)) ∧ Below w.heap.size w w' := by
  go_enter Try.func35, Try.ntmps35
  go_wp2_with fail
  go_loopw [9] (fun i wr => ∃ q : Nat, q ≤ k ∧ i = .int .i64 q ∧ Hid (∀ j, j < q → sameB (S j) s = false) ∧ Below (w.heap.size + 1) (w.alloc (.cells #[.string s.nm, .int .i64 s.ln, .int .i64 s.sp, .int .i64 s.br] 69)) wr) (fun i _ => k - (intOf i).toNat)
  case atStart => exact ⟨0, Nat.zero_le _, rfl, fun j hj => absurd hj (Nat.not_lt_zero _), Below.refl _ _⟩
  case round =>
    obtain ⟨q, hq, rfl, hall, hbel⟩ := hrel
    have hB : Below w.heap.size w wr := (bel1 w _).trans (hbel.mono (by omega))
    by_cases hlq : q < k
    · obtain ⟨b, off, rfl, _, hb, hc⟩ := (hS.mono (Nat.le_refl _) hB (Nat.le_refl _)) (by omega)
      obtain ⟨d0, d1, d2, d3⟩ := hc q hlq
      have zz : w.heap.size < wr.heap.size := by have := hbel.size; simp at this; omega
      have c0 : wr.cell? ⟨w.heap.size, 0, none⟩ = some (.string s.nm) := by rw [hbel.cell (by show w.heap.size < _; omega), World.cell?_alloc_at _ _ _ _ (by simp)]; rfl
      have c1 : wr.cell? ⟨w.heap.size, 1, none⟩ = some (.int .i64 s.ln) := by rw [hbel.cell (by show w.heap.size < _; omega), World.cell?_alloc_at _ _ _ _ (by simp)]; rfl
      have c2 : wr.cell? ⟨w.heap.size, 2, none⟩ = some (.int .i64 s.sp) := by rw [hbel.cell (by show w.heap.size < _; omega), World.cell?_alloc_at _ _ _ _ (by simp)]; rfl
      have c3 : wr.cell? ⟨w.heap.size, 3, none⟩ = some (.int .i64 s.br) := by rw [hbel.cell (by show w.heap.size < _; omega), World.cell?_alloc_at _ _ _ _ (by simp)]; rfl
      clear hc
      have HT : Hid (sameB (S q) s = true → clashB S s k = true) := fun h => clashB_true hlq h
      have HF : Hid (sameB (S q) s = false → ∀ j, j < q + 1 → sameB (S j) s = false) := fun h => snoc_all (p := fun j => sameB (S j) s) hall.out h
      clear hall
      rcases same5 (S q) s with ⟨e1, e⟩ | ⟨e1, e2, e⟩ | ⟨e1, e2, e3, e⟩ | ⟨e1, e2, e3, e4, e⟩ | ⟨e1, e2, e3, e4, e⟩
      · have HV : Hid (clashB S s k = true) := HT.out e
        clear e
        go_wp2_with fail
        go_ret
        exact ⟨by rw [HV.out] <;> rfl, hB.alloc hB.size _⟩
      · have HV : Hid (∀ j, j < q + 1 → sameB (S j) s = false) := HF.out e
        clear e
        go_wp2_with fail
        go_roundw
        case rel => exact ⟨q + 1, by omega, by go_num, HV, hbel.alloc (by omega) _⟩
        case measure => simp [intOf]; omega
      · have HV : Hid (∀ j, j < q + 1 → sameB (S j) s = false) := HF.out e
        clear e
        go_wp2_with fail
        go_roundw
        case rel => exact ⟨q + 1, by omega, by go_num, HV, hbel.alloc (by omega) _⟩
        case measure => simp [intOf]; omega
      · have HV : Hid (∀ j, j < q + 1 → sameB (S j) s = false) := HF.out e
        clear e
        go_wp2_with fail
        go_roundw
        case rel => exact ⟨q + 1, by omega, by go_num, HV, hbel.alloc (by omega) _⟩
        case measure => simp [intOf]; omega
      · have HV : Hid (clashB S s k = true) := HT.out e
        clear e
        go_wp2_with fail
        go_ret
        exact ⟨by rw [HV.out] <;> rfl, hB.alloc hB.size _⟩
    · obtain rfl : q = k := by omega
      have HV : Hid (clashB S s q = false) := clashB_false hall.out
      clear hall
      go_wp2_with fail
      go_ret
      exact ⟨by rw [HV.out] <;> rfl, hB⟩

/-- the ways through the test of one signal -/
theorem sg_bad1 {n : Nat} {P : Nat → Pc} {s : Pc} (h : nameB s.nm = false) : sgBad n P s = true := by simp [sgBad, h]
theorem sg_bad2 {n : Nat} {P : Nat → Pc} {s : Pc} (h : inB s.ln 0 ((n : Int) - 1) = false) : sgBad n P s = true := by simp [sgBad, h]
theorem sg_bad3 {n : Nat} {P : Nat → Pc} {s : Pc} (h : (s.br != 1) = true) (h' : (s.br != -1) = true) : sgBad n P s = true := by
  simp only [bne_iff_ne, ne_eq] at h h'
  simp [sgBad, h, h']
theorem sg_last {n : Nat} {P : Nat → Pc} {s : Pc} (h1 : nameB s.nm = true) (h2 : inB s.ln 0 ((n : Int) - 1) = true) (h3 : s.br = 1 ∨ s.br = -1) : sgBad n P s = !(inB s.sp 1 ((P s.ln.toNat).ln - 1)) := by
  have h4 : (s.br == 1 || s.br == -1) = true := by simpa using h3
  simp [sgBad, h1, h2, h4]

set_option maxHeartbeats 2000000 in
theorem signalOk34 (pa : Option Addr) (n pc : Nat) (P : Nat → Pc) (ja : Option Addr) (m jc : Nat) (s : Pc) (w : World) (hn : n ≤ 1048576) (hP : PsAt 0 w pa n P) (hs : s.nm.size ≤ maxLen) (hln : ∀ i, i < n → 1 ≤ (P i).ln ∧ (P i).ln ≤ 10000000) :
    Calls Try.prog 34 #[.agg #[.slice pa n pc, .slice ja m jc], .agg #[.string s.nm, .int .i64 s.ln, .int .i64 s.sp, .int .i64 s.br]] w fun e w' => e = .returned (.bool (!sgBad n P s)) ∧ Below w.heap.size w w' := by
  have Hln : Hid (∀ i, i < n → 1 ≤ (P i).ln ∧ (P i).ln ≤ 10000000) := hln
  clear hln
  cases n1 : nameB s.nm
  · have Hv : Hid (sgBad n P s = true) := sg_bad1 n1
    go_enter Try.func34, Try.ntmps34
    go_wp2_with (first | (go_at_call 42; refine (nameOk42 _ _ hs).mono ?_; rintro e w1 ⟨rfl, rfl⟩) | (go_at_call 43; refine (within43 _ _ _ _).mono ?_; rintro e w1 ⟨rfl, rfl⟩))
    go_ret
    exact ⟨by rw [Hv.out] <;> rfl, bel2 _ _ _⟩
  · cases i1 : inB s.ln 0 ((n : Int) - 1)
    · have Hv : Hid (sgBad n P s = true) := sg_bad2 i1
      go_enter Try.func34, Try.ntmps34
      go_wp2_with (first | (go_at_call 42; refine (nameOk42 _ _ hs).mono ?_; rintro e w1 ⟨rfl, rfl⟩) | (go_at_call 43; refine (within43 _ _ _ _).mono ?_; rintro e w1 ⟨rfl, rfl⟩))
      go_ret
      exact ⟨by rw [Hv.out] <;> rfl, bel2 _ _ _⟩
    · have hrange : 0 ≤ s.ln ∧ s.ln ≤ (n : Int) - 1 := by simpa [inB] using i1
      obtain ⟨p, hp⟩ : ∃ p : Nat, s.ln = (p : Int) := ⟨s.ln.toNat, by omega⟩
      have hpn : p < n := by omega
      have hp0 : (0 : Int) ≤ (p : Int) := by omega
      have hp1 : (p : Int) < (n : Int) := by omega
      obtain ⟨b, off, rfl, _, hb, hc⟩ := hP (by omega)
      have c1 := (hc p hpn).2.1
      obtain ⟨hl1, hl2⟩ := Hln.out p hpn
      have htn : s.ln.toNat = p := by omega
      clear hc
      cases w1 : (s.br != 1)
      · have h3 : s.br = 1 ∨ s.br = -1 := Or.inl (by simpa using w1)
        have Hv : Hid (sgBad n P s = !(inB s.sp 1 ((P p).ln - 1))) := by
          show sgBad n P s = _
          rw [sg_last n1 i1 h3, htn]
        clear hrange h3
        obtain ⟨snm, sln, ssp, sbr⟩ := s
        simp only at hp w1 n1 i1 Hv hs ⊢
        subst hp
        clear htn
        go_enter Try.func34, Try.ntmps34
        go_wp2_with (first | (go_at_call 42; refine (nameOk42 _ _ hs).mono ?_; rintro e w1 ⟨rfl, rfl⟩) | (go_at_call 43; refine (within43 _ _ _ _).mono ?_; rintro e w1 ⟨rfl, rfl⟩))
        go_quiet ((go_at_call 43; exact Calls.quiet_of_same (within43 _ _ _ _)))
        go_wp2_with fail
        go_ret
        exact ⟨by rw [Hv.out]; simp, below_drewN (bel2 _ _ _) _⟩
      · cases w2 : (s.br != -1)
        · have h3 : s.br = 1 ∨ s.br = -1 := Or.inr (by simpa using w2)
          have Hv : Hid (sgBad n P s = !(inB s.sp 1 ((P p).ln - 1))) := by
            show sgBad n P s = _
            rw [sg_last n1 i1 h3, htn]
          clear hrange h3
          obtain ⟨snm, sln, ssp, sbr⟩ := s
          simp only at hp w1 w2 n1 i1 Hv hs ⊢
          subst hp
          clear htn
          go_enter Try.func34, Try.ntmps34
          go_wp2_with (first | (go_at_call 42; refine (nameOk42 _ _ hs).mono ?_; rintro e w1 ⟨rfl, rfl⟩) | (go_at_call 43; refine (within43 _ _ _ _).mono ?_; rintro e w1 ⟨rfl, rfl⟩))
          go_quiet ((go_at_call 43; exact Calls.quiet_of_same (within43 _ _ _ _)))
          go_wp2_with fail
          go_ret
          exact ⟨by rw [Hv.out]; simp, below_drewN (bel2 _ _ _) _⟩
        · have Hv : Hid (sgBad n P s = true) := sg_bad3 w1 w2
          clear hp hpn hp0 hp1 c1 hl1 hl2 htn hrange
          go_enter Try.func34, Try.ntmps34
          go_wp2_with (first | (go_at_call 42; refine (nameOk42 _ _ hs).mono ?_; rintro e w1 ⟨rfl, rfl⟩) | (go_at_call 43; refine (within43 _ _ _ _).mono ?_; rintro e w1 ⟨rfl, rfl⟩))
          go_ret
          exact ⟨by rw [Hv.out] <;> rfl, bel2 _ _ _⟩

end Go.Proofs.Ytdkjgedkmnoglaa
