import Derived.Test.YtdkjgedkmnoglaaSigB
import Derived.Test.YtdkjgedkmnoglaaImpl
namespace Go.Proofs.Ytdkjgedkmnoglaa
open Go.RowKit

set_option maxHeartbeats 2000000 in
theorem l11ok31 (pa : Option Addr) (n pc : Nat) (P : Nat → Pc) (ja : Option Addr) (m jc : Nat) (J : Nat → Jt) (w : World) (hn : n ≤ 1048576) (hm : m ≤ 1048576)
    (hP : PsAt 0 w pa n P) (hJ : JsAt 0 w ja m J) (hps : ∀ i, i < n → (P i).nm.size ≤ maxLen) (hjs : ∀ i, i < m → (J i).ne ≤ 1048576 ∧ (J i).nm.size ≤ maxLen) :
    Calls Try.prog 31 #[.agg #[.slice pa n pc, .slice ja m jc]] w fun r w' => r = .returned (.bool ((netF n P m J).1 == 0)) ∧ Below w.heap.size w w' := by
  have Hps : Hid (∀ i, i < n → (P i).nm.size ≤ maxLen) := hps
  have Hjs : Hid (∀ i, i < m → (J i).ne ≤ 1048576 ∧ (J i).nm.size ≤ maxLen) := hjs
  clear hps hjs
  go_enter Try.func31, Try.ntmps31
  go_wp2_with fail
  refine (spec6 pa n pc P ja m jc J _ hn hm (hP.mono (Nat.le_refl _) (bel1 w _) (Nat.le_refl _)) (hJ.mono (Nat.le_refl _) (bel1 w _) (Nat.le_refl _)) Hps.out Hjs.out).mono ?_
  rintro e w1 ⟨rfl, hb1⟩
  have hB := (bel1 w _).trans (hb1.mono (by simp))
  clear hb1
  go_wp2_with fail
  go_ret
  exact ⟨rfl, hB.alloc hB.size _⟩

set_option maxRecDepth 100000 in
set_option maxHeartbeats 4000000 in
theorem spec12 (pa : Option Addr) (n pc : Nat) (P : Nat → Pc) (ja : Option Addr) (m jc : Nat) (J : Nat → Jt) (sa : Option Addr) (k sc : Nat) (S : Nat → Pc) (w : World) (hn : n ≤ 1048576) (hm : m ≤ 1048576)
    (hP : PsAt 0 w pa n P) (hJ : JsAt 0 w ja m J) (hps : ∀ i, i < n → (P i).nm.size ≤ maxLen) (hjs : ∀ i, i < m → (J i).ne ≤ 1048576 ∧ (J i).nm.size ≤ maxLen)
    (hk : k ≤ 1048576) (hS : PsAt 0 w sa k S) (hss : ∀ i, i < k → (S i).nm.size ≤ maxLen) :
    Calls Try.prog 12 #[.agg #[.slice pa n pc, .slice ja m jc], .slice sa k sc] w fun r w' => r = .returned (.agg #[.int .i64 (sigF n P m J k S).1, .int .i64 (sigF n P m J k S).2]) ∧ Below w.heap.size w w' := by
  have Hps : Hid (∀ i, i < n → (P i).nm.size ≤ maxLen) := hps
  have Hjs : Hid (∀ i, i < m → (J i).ne ≤ 1048576 ∧ (J i).nm.size ≤ maxLen) := hjs
  have Hss : Hid (∀ i, i < k → (S i).nm.size ≤ maxLen) := hss
  clear hps hjs hss
  go_enter Try.func12, Try.ntmps12
  go_wp2_with fail
  refine (l11ok31 pa n pc P ja m jc J _ hn hm (hP.mono (Nat.le_refl _) (bel2 w _ _) (Nat.le_refl _)) (hJ.mono (Nat.le_refl _) (bel2 w _ _) (Nat.le_refl _)) Hps.out Hjs.out).mono ?_
  rintro e w1 ⟨rfl, hb1⟩
  have hbel : Below (w.heap.size + 1 + 1) (X6 w pa n pc ja m jc) w1 := hb1.mono (by simp)
  clear hb1
  cases hz : ((netF n P m J).1 == 0)
  · have Hv : Hid (sigF n P m J k S = (1, 0)) := by
      show sigF n P m J k S = _
      have : ¬ (netF n P m J).1 = 0 := by simpa using hz
      simp [sigF, this]
    obtain ⟨z0, z1, y0, y1, r0, r1, f0, f1, hB⟩ := facts6 hbel
    go_wp2_with fail
    exact bodyPost_ret (v := .agg #[.int .i64 1, .int .i64 0]) (by simp [results, Try.results12, go_sem, r0, r1]) rfl ⟨by rw [Hv.out], belS2 hB _ _⟩
  · have hz0 : (netF n P m J).1 = 0 := by simpa using hz
    have Hln : Hid (∀ i, i < n → 1 ≤ (P i).ln ∧ (P i).ln ≤ 10000000) := (netF_zero hz0).2
    have Hs0 : Hid (sigF n P m J k S = if 60 < k then (2, 0) else sig3 n P k S) := by
      show sigF n P m J k S = _
      simp [sigF, hz0]
    clear hz0
    obtain ⟨z0, z1, y0, y1, r0, r1, f0, f1, hB⟩ := facts6 hbel
    by_cases h60 : 60 < k
    · have Hv : Hid (sigF n P m J k S = (2, 0)) := by
        show sigF n P m J k S = _
        rw [Hs0.out, if_pos h60]
      go_wp2_with fail
      exact bodyPost_ret (v := .agg #[.int .i64 2, .int .i64 0]) (by simp [results, Try.results12, go_sem, r0, r1]) rfl ⟨by rw [Hv.out], belS2 hB _ _⟩
    · have Hs : Hid (sigF n P m J k S = sig3 n P k S) := by
        show sigF n P m J k S = _
        rw [Hs0.out, if_neg h60]
      have h60' : decide (60 < (k : Int)) = false := by simp; omega
      clear Hs0 h60
      go_wp2_with fail
      clear z0 z1 y0 y1 r0 r1 f0 f1 hB hz
      go_loopw [18] (fun i wr => ∃ q : Nat, q ≤ k ∧ i = .int .i64 q ∧ Hid (∀ j, j < q → sgBad n P (S j) = false) ∧ Below (w.heap.size + 1 + 1) (X6 w pa n pc ja m jc) wr) (fun i _ => k - (intOf i).toNat)
      case atStart => exact ⟨0, Nat.zero_le _, rfl, fun j hj => absurd hj (Nat.not_lt_zero _), hbel⟩
      case round =>
        obtain ⟨q, hq, rfl, hall, hbel2⟩ := hrel
        clear hbel
        have hbel := hbel2
        clear hbel2
        obtain ⟨z0, z1, y0, y1, r0, r1, f0, f1, hB⟩ := facts6 hbel
        by_cases hlq : q < k
        · have hsk := Hss.out q hlq
          obtain ⟨b, off, rfl, _, hb, hc⟩ := (hS.mono (Nat.le_refl _) hB (Nat.le_refl _)) (by omega)
          obtain ⟨d0, d1, d2, d3⟩ := hc q hlq
          clear hc
          have HB : Hid (sgBad n P (S q) = true → sigF n P m J k S = (3, (q : Int))) := fun h => by rw [Hs.out]; exact sig3_hit hlq hall.out h
          have HF : Hid (sgBad n P (S q) = false → ∀ j, j < q + 1 → sgBad n P (S j) = false) := fun h => snoc_all (p := fun j => sgBad n P (S j)) hall.out h
          clear hall
          cases n1 : nameB (S q).nm
          · have Hv : Hid (sigF n P m J k S = (3, (q : Int))) := HB.out (sg_bad1 n1)
            clear HB HF
            go_wp2_with (first | (go_at_call 18; refine (name18 _ _ hsk).mono ?_; rintro e wr ⟨rfl, rfl⟩) | (go_at_call 19; refine (in19 _ _ _ _).mono ?_; rintro e wr ⟨rfl, rfl⟩))
            exact bodyPost_ret (v := .agg #[.int .i64 3, .int .i64 q]) (by simp [results, Try.results12, go_sem, r0, r1, z1]) rfl ⟨by rw [Hv.out], belS2a hB _ _ _⟩
          · cases i1 : inB (S q).ln 0 ((n : Int) - 1)
            · have Hv : Hid (sigF n P m J k S = (3, (q : Int))) := HB.out (sg_bad2 i1)
              clear HB HF
              go_wp2_with (first | (go_at_call 18; refine (name18 _ _ hsk).mono ?_; rintro e wr ⟨rfl, rfl⟩) | (go_at_call 19; refine (in19 _ _ _ _).mono ?_; rintro e wr ⟨rfl, rfl⟩))
              exact bodyPost_ret (v := .agg #[.int .i64 3, .int .i64 q]) (by simp [results, Try.results12, go_sem, r0, r1, z1]) rfl ⟨by rw [Hv.out], belS2a hB _ _ _⟩
            · cases w1 : ((S q).br != 1)
              · have h3 : (S q).br = 1 ∨ (S q).br = -1 := Or.inl (by simpa using w1)
                have Hl0 := sg_last (P := P) n1 i1 h3
                have hrange : 0 ≤ (S q).ln ∧ (S q).ln ≤ (n : Int) - 1 := by simpa [inB] using i1
                obtain ⟨p, hp⟩ : ∃ p : Nat, (S q).ln = (p : Int) := ⟨(S q).ln.toNat, by omega⟩
                have hpn : p < n := by omega
                have hp0 : (0 : Int) ≤ (p : Int) := by omega
                have hp1 : (p : Int) < (n : Int) := by omega
                obtain ⟨b2, off2, rfl, _, hb2, hc2⟩ := (hP.mono (Nat.le_refl _) hB (Nat.le_refl _)) (by omega)
                have c1 := (hc2 p hpn).2.1
                obtain ⟨hl1, hl2⟩ := Hln.out p hpn
                rw [show (S q).ln.toNat = p by omega] at Hl0
                have Hl : Hid (sgBad n P (S q) = !(inB (S q).sp 1 ((P p).ln - 1))) := Hl0
                rw [hp] at d1 i1
                clear hc2 hrange hp h3 Hl0
                have hB2 := hB.alloc hB.size (.cells #[.string (S q).nm, .int .i64 (p : Int), .int .i64 (S q).sp, .int .i64 (S q).br] 69)
                cases v1 : inB (S q).sp 1 ((P p).ln - 1)
                · have Hv : Hid (sigF n P m J k S = (3, (q : Int))) := HB.out (by rw [Hl.out, v1]; rfl)
                  clear HB HF
                  go_wp2_with (first | (go_at_call 18; refine (name18 _ _ hsk).mono ?_; rintro e wr ⟨rfl, rfl⟩) | (go_at_call 19; refine (in19 _ _ _ _).mono ?_; rintro e wr ⟨rfl, rfl⟩))
                  go_quiet ((go_at_call 19; exact Calls.quiet_of_same (in19 _ _ _ _)))
                  go_wp2_with fail
                  exact bodyPost_ret (v := .agg #[.int .i64 3, .int .i64 q]) (by simp [results, Try.results12, go_sem, r0, r1, z1]) rfl ⟨by rw [Hv.out], belS2 (below_drewN hB2 _) _ _⟩
                · have HV : Hid (∀ j, j < q + 1 → sgBad n P (S j) = false) := HF.out (by rw [Hl.out, v1]; rfl)
                  clear HB HF
                  go_wp2_with (first | (go_at_call 18; refine (name18 _ _ hsk).mono ?_; rintro e wr ⟨rfl, rfl⟩) | (go_at_call 19; refine (in19 _ _ _ _).mono ?_; rintro e wr ⟨rfl, rfl⟩))
                  go_quiet ((go_at_call 19; exact Calls.quiet_of_same (in19 _ _ _ _)))
                  go_wp2_with fail
                  go_roundw
                  case rel => exact ⟨q + 1, by omega, by go_num, HV, below_drewN (hbel.alloc (by omega) _) _⟩
                  case measure => simp [intOf]; omega
              · cases w2 : ((S q).br != -1)
                · have h3 : (S q).br = 1 ∨ (S q).br = -1 := Or.inr (by simpa using w2)
                  have Hl0 := sg_last (P := P) n1 i1 h3
                  have hrange : 0 ≤ (S q).ln ∧ (S q).ln ≤ (n : Int) - 1 := by simpa [inB] using i1
                  obtain ⟨p, hp⟩ : ∃ p : Nat, (S q).ln = (p : Int) := ⟨(S q).ln.toNat, by omega⟩
                  have hpn : p < n := by omega
                  have hp0 : (0 : Int) ≤ (p : Int) := by omega
                  have hp1 : (p : Int) < (n : Int) := by omega
                  obtain ⟨b2, off2, rfl, _, hb2, hc2⟩ := (hP.mono (Nat.le_refl _) hB (Nat.le_refl _)) (by omega)
                  have c1 := (hc2 p hpn).2.1
                  obtain ⟨hl1, hl2⟩ := Hln.out p hpn
                  rw [show (S q).ln.toNat = p by omega] at Hl0
                  have Hl : Hid (sgBad n P (S q) = !(inB (S q).sp 1 ((P p).ln - 1))) := Hl0
                  rw [hp] at d1 i1
                  clear hc2 hrange hp h3 Hl0
                  have hB2 := hB.alloc hB.size (.cells #[.string (S q).nm, .int .i64 (p : Int), .int .i64 (S q).sp, .int .i64 (S q).br] 69)
                  cases v1 : inB (S q).sp 1 ((P p).ln - 1)
                  · have Hv : Hid (sigF n P m J k S = (3, (q : Int))) := HB.out (by rw [Hl.out, v1]; rfl)
                    clear HB HF
                    go_wp2_with (first | (go_at_call 18; refine (name18 _ _ hsk).mono ?_; rintro e wr ⟨rfl, rfl⟩) | (go_at_call 19; refine (in19 _ _ _ _).mono ?_; rintro e wr ⟨rfl, rfl⟩))
                    go_quiet ((go_at_call 19; exact Calls.quiet_of_same (in19 _ _ _ _)))
                    go_wp2_with fail
                    exact bodyPost_ret (v := .agg #[.int .i64 3, .int .i64 q]) (by simp [results, Try.results12, go_sem, r0, r1, z1]) rfl ⟨by rw [Hv.out], belS2 (below_drewN hB2 _) _ _⟩
                  · have HV : Hid (∀ j, j < q + 1 → sgBad n P (S j) = false) := HF.out (by rw [Hl.out, v1]; rfl)
                    clear HB HF
                    go_wp2_with (first | (go_at_call 18; refine (name18 _ _ hsk).mono ?_; rintro e wr ⟨rfl, rfl⟩) | (go_at_call 19; refine (in19 _ _ _ _).mono ?_; rintro e wr ⟨rfl, rfl⟩))
                    go_quiet ((go_at_call 19; exact Calls.quiet_of_same (in19 _ _ _ _)))
                    go_wp2_with fail
                    go_roundw
                    case rel => exact ⟨q + 1, by omega, by go_num, HV, below_drewN (hbel.alloc (by omega) _) _⟩
                    case measure => simp [intOf]; omega
                · have Hv : Hid (sigF n P m J k S = (3, (q : Int))) := HB.out (sg_bad3 w1 w2)
                  clear HB HF
                  go_wp2_with (first | (go_at_call 18; refine (name18 _ _ hsk).mono ?_; rintro e wr ⟨rfl, rfl⟩) | (go_at_call 19; refine (in19 _ _ _ _).mono ?_; rintro e wr ⟨rfl, rfl⟩))
                  exact bodyPost_ret (v := .agg #[.int .i64 3, .int .i64 q]) (by simp [results, Try.results12, go_sem, r0, r1, z1]) rfl ⟨by rw [Hv.out], belS2a hB _ _ _⟩
        · obtain rfl : q = k := by omega
          have Hs4 : Hid (sigF n P m J q S = sig4 q S) := by
            show sigF n P m J q S = _
            rw [Hs.out, sig3_none hall.out]
          clear hall Hs Hln Hss
          go_wp2_with fail
          clear z0 z1 y0 y1 r0 r1 f0 f1 hB
          obtain ⟨wo, hwo⟩ : ∃ wo : World, wo = wr := ⟨_, rfl⟩
          subst hwo
          go_loopw [66] (fun i wr => ∃ t : Nat, t ≤ q ∧ i = .int .i64 t ∧ Hid (∀ j, j < t → clashB S (S j) j = false) ∧ Below (w.heap.size + 1 + 1) (X6 w pa n pc ja m jc) wr) (fun i _ => q - (intOf i).toNat)
          case atStart => exact ⟨0, Nat.zero_le _, rfl, fun j hj => absurd hj (Nat.not_lt_zero _), hbel⟩
          case round =>
            obtain ⟨t, ht, rfl, hall, hbel4⟩ := hrel
            clear hbel
            obtain ⟨z0, z1, y0, y1, r0, r1, f0, f1, hB⟩ := facts6 hbel4
            have hS4 := hS.mono (Nat.le_refl _) hB (Nat.le_refl _)
            by_cases hlt2 : t < q
            · cases hv : clashB S (S t) t
              · have Hall : Hid (∀ j, j < t + 1 → clashB S (S j) j = false) := snoc_all (p := fun j => clashB S (S j) j) hall.out hv
                clear hall
                go_wp2_with fail
                refine (l11before32 sa q sc S t _ hk hlt2 hS4).mono ?_
                rintro e w2 ⟨rfl, hb1⟩
                have hbel5 := hbel4.trans (hb1.mono (by omega))
                clear z0 z1 y0 y1 r0 r1 f0 f1 hB hb1 hS4
                go_wp2_with fail
                go_roundw
                case rel => first | exact ⟨t + 1, by omega, by go_num, Hall, hbel5⟩ | ((repeat apply Exists.intro); exact ⟨⟨t + 1, by omega, by go_num, Hall, hbel5⟩, rfl⟩)
                case measure => simp [intOf]; omega
              · have Hv : Hid (sigF n P m J q S = (4, (t : Int))) := by
                  show sigF n P m J q S = _
                  rw [Hs4.out]
                  exact sig4_hit hlt2 hall.out hv
                clear hall
                go_wp2_with fail
                refine (l11before32 sa q sc S t _ hk hlt2 hS4).mono ?_
                rintro e w2 ⟨rfl, hb1⟩
                have hbel5 := hbel4.trans (hb1.mono (by omega))
                clear z0 z1 y0 y1 r0 r1 f0 f1 hB hb1 hS4
                obtain ⟨z0, z1, y0, y1, r0, r1, f0, f1, hB⟩ := facts6 hbel5
                go_wp2_with fail
                exact bodyPost_ret (v := .agg #[.int .i64 4, .int .i64 t]) (by simp [results, Try.results12, go_sem, r0, r1]) rfl ⟨by rw [Hv.out], belS2 hB _ _⟩
            · obtain rfl : t = q := by omega
              have Hv : Hid (sigF n P m J t S = (0, 0)) := by
                show sigF n P m J t S = _
                rw [Hs4.out, sig4_none hall.out]
              clear hall Hs4
              go_wp2_with fail
              exact bodyPost_ret (v := .agg #[.int .i64 0, .int .i64 0]) (by simp [results, Try.results12, go_sem, r0, r1]) rfl ⟨by rw [Hv.out], belS2 hB _ _⟩

end Go.Proofs.Ytdkjgedkmnoglaa
