import Derived.Test.YtoennemahlakeaaLa
namespace Go.Proofs.Ytoennemahlakeaa
open Go.RowKit

/-- the net's own box reads as it was laid -/
theorem boxN {w wr : World} {pa ja : Option Addr} {n pc m jc : Nat} (h : Below (w.heap.size + 1) (w.alloc (.cells #[.slice pa n pc, .slice ja m jc] 32)) wr) :
    wr.cell? ⟨w.heap.size, 0, none⟩ = some (.slice pa n pc) ∧ wr.cell? ⟨w.heap.size, 1, none⟩ = some (.slice ja m jc) ∧ w.heap.size < wr.heap.size ∧ Below w.heap.size w wr := by
  refine ⟨?_, ?_, ?_, (bel1 w _).trans (h.mono (by simp))⟩
  · rw [h.cell (p := ⟨w.heap.size, 0, none⟩) (by simp)]
    simp
  · rw [h.cell (p := ⟨w.heap.size, 1, none⟩) (by simp)]
    simp
  · have := h.size
    simp at this
    omega

set_option maxHeartbeats 1000000 in
theorem l22ok26 (pa : Option Addr) (n pc : Nat) (P : Nat → Pc) (ja : Option Addr) (m jc : Nat) (J : Nat → Jt) (w : World) (hn : n ≤ 1048576) (hm : m ≤ 1048576) (hP : PsAt 0 w pa n P) (hJ : JsAt 0 w ja m J) (hps : ∀ i, i < n → (P i).nm.size ≤ maxLen) (hjs : ∀ i, i < m → (J i).ne ≤ 1048576 ∧ (J i).nm.size ≤ maxLen) :
    Calls Try.prog 26 #[.agg #[.slice pa n pc, .slice ja m jc]] w fun e w' => e = .returned (.bool (decide ((netF n P m J).1 = 0))) ∧ Below w.heap.size w w' := by
  have Hps : Hid (∀ i, i < n → (P i).nm.size ≤ maxLen) := hps
  have Hjs : Hid (∀ i, i < m → (J i).ne ≤ 1048576 ∧ (J i).nm.size ≤ maxLen) := hjs
  clear hps hjs
  go_enter Try.func26, Try.ntmps26
  go_wp2_with fail
  refine (spec6 pa n pc P ja m jc J _ hn hm (hP.mono (Nat.le_refl _) (bel1 w _) (Nat.le_refl _)) (hJ.mono (Nat.le_refl _) (bel1 w _) (Nat.le_refl _)) Hps.out Hjs.out).mono ?_
  rintro e w1 ⟨rfl, hb1⟩
  have B1 := (bel1 w (.cells #[.slice pa n pc, .slice ja m jc] 32)).trans (hb1.mono (by simp))
  clear hb1
  go_wp2
  go_ret
  exact ⟨rfl, B1.alloc B1.size _⟩

set_option maxRecDepth 100000 in
set_option maxHeartbeats 4000000 in
theorem l22lies27 (pa : Option Addr) (n pc : Nat) (ja : Option Addr) (m jc : Nat) (J : Nat → Jt) (la : Option Addr) (nl lc : Nat) (L : Nat → Int) (w : World) (hm : m ≤ 1048576) (hl : nl ≤ 1048576) (hJ : JsAt 0 w ja m J) (hL : IsAt 0 w la nl L) :
    Calls Try.prog 27 #[.agg #[.slice pa n pc, .slice ja m jc], .slice la nl lc] w fun e w' => e = .returned (.bool (liesB m J nl L)) ∧ Below w.heap.size w w' := by
  by_cases hq : nl = m
  · subst hq
    have HB : Hid (liesB nl J nl L = allL (lieB J L) nl) := by
      show liesB nl J nl L = _
      simp [liesB]
    go_enter Try.func27, Try.ntmps27
    go_wp2_with fail
    go_loopw [15] (fun i wr => ∃ k : Nat, k ≤ nl ∧ i = .int .i64 k ∧ Hid (∀ q, q < k → lieB J L q = true) ∧ Below (w.heap.size + 1) (w.alloc (.cells #[.slice pa n pc, .slice ja nl jc] 32)) wr) (fun i _ => nl - (intOf i).toNat)
    case atStart => exact ⟨0, Nat.zero_le _, rfl, fun j hj => absurd hj (Nat.not_lt_zero _), Below.refl _ _⟩
    case round =>
      obtain ⟨k, hk, rfl, HA, hbel⟩ := hrel
      obtain ⟨z0, z1, zs, hB⟩ := boxN hbel
      by_cases hlt : k < nl
      · obtain ⟨b, off, rfl, _, hb, hc⟩ := (hL.mono (Nat.le_refl _) hB (Nat.le_refl _)) (by omega)
        have c0 := hc k hlt
        clear hc
        obtain ⟨jb, jo, rfl, _, hjb, hjc⟩ := (hJ.mono (Nat.le_refl _) hB (Nat.le_refl _)) (by omega)
        obtain ⟨ea, ec, j0, _, _, _⟩ := hjc k hlt
        clear hjc
        have hk0 : (0 : Int) ≤ (k : Int) := by omega
        have hkn : (k : Int) < (nl : Int) := by omega
        go_wp2_with fail
        refine (l22in53 (L k) 0 2 _).mono ?_
        rintro e w1 ⟨rfl, rfl⟩
        have HNO : Hid (lieB J L k = false → liesB nl J nl L = false) := fun e => by rw [HB.out, allL_no hlt e]
        have HGO : Hid (lieB J L k = true → ∀ q, q < k + 1 → lieB J L q = true) := fun e q hq => by
          by_cases c : q = k
          · subst c
            exact e
          · exact HA.out q (by omega)
        cases h2 : inB (L k) 0 2 with
        | false =>
          have HF := HNO.out (by rw [lieB_eq, h2]; rfl)
          go_wp2_with fail
          go_ret
          exact ⟨by rw [HF] <;> rfl, hB⟩
        | true =>
          by_cases h0 : L k = 0
          · have z : (L k != 0) = false := by simpa using h0
            go_wp2_with fail
            go_roundw
            case rel => exact ⟨k + 1, by omega, by go_num, HGO.out (by rw [lieB_eq, h2]; simp [h0]), hbel⟩
            case measure => simp [intOf]; omega
          · have z : (L k != 0) = true := by simpa using h0
            by_cases h3 : (J k).kd = 3
            · have z3 : ((J k).kd != 3) = false := by simpa using h3
              go_wp2_with fail
              go_roundw
              case rel => exact ⟨k + 1, by omega, by go_num, HGO.out (by rw [lieB_eq, h2]; simp [h3]), hbel⟩
              case measure => simp [intOf]; omega
            · have z3 : ((J k).kd != 3) = true := by simpa using h3
              have HF := HNO.out (by rw [lieB_eq, h2]; simp [h0, h3])
              go_wp2_with fail
              go_ret
              exact ⟨by rw [HF] <;> rfl, hB⟩
      · obtain rfl : k = nl := by omega
        have HF : liesB k J k L = true := by rw [HB.out, allL_yes HA.out]
        go_wp2_with fail
        go_ret
        exact ⟨by rw [HF] <;> rfl, hB⟩
  · have HF : liesB m J nl L = false := by simp [liesB, hq]
    have z : ((nl : Int) != (m : Int)) = true := by simp; omega
    go_enter Try.func27, Try.ntmps27
    go_wp2_with fail
    go_ret
    exact ⟨by rw [HF] <;> rfl, bel1 _ _⟩

set_option maxHeartbeats 1000000 in
theorem spec8 (pa : Option Addr) (n pc : Nat) (P : Nat → Pc) (ja : Option Addr) (m jc : Nat) (J : Nat → Jt) (la : Option Addr) (nl lc : Nat) (L : Nat → Int) (w : World) (hn : n ≤ 1048576) (hm : m ≤ 1048576) (hl : nl ≤ 1048576) (hP : PsAt 0 w pa n P) (hJ : JsAt 0 w ja m J) (hps : ∀ i, i < n → (P i).nm.size ≤ maxLen) (hjs : ∀ i, i < m → (J i).ne ≤ 1048576 ∧ (J i).nm.size ≤ maxLen) (hL : IsAt 0 w la nl L) :
    Calls Try.prog 8 #[.agg #[.slice pa n pc, .slice ja m jc], .slice la nl lc] w fun e w' => e = .returned (.bool (liesF n P m J nl L)) ∧ Below w.heap.size w w' := by
  have Hps : Hid (∀ i, i < n → (P i).nm.size ≤ maxLen) := hps
  have Hjs : Hid (∀ i, i < m → (J i).ne ≤ 1048576 ∧ (J i).nm.size ≤ maxLen) := hjs
  clear hps hjs
  have HF : Hid (liesF n P m J nl L = (decide ((netF n P m J).1 = 0) && liesB m J nl L)) := rfl
  go_enter Try.func8, Try.ntmps8
  go_wp2_with fail
  refine (l22ok26 pa n pc P ja m jc J _ hn hm (hP.mono (Nat.le_refl _) (bel1 w _) (Nat.le_refl _)) (hJ.mono (Nat.le_refl _) (bel1 w _) (Nat.le_refl _)) Hps.out Hjs.out).mono ?_
  rintro e w1 ⟨he, hb1⟩
  have hbel : Below (w.heap.size + 1) (w.alloc (.cells #[.slice pa n pc, .slice ja m jc] 32)) w1 := hb1.mono (by simp)
  clear hb1
  obtain ⟨z0, z1, zs, hB⟩ := boxN hbel
  by_cases hz : (netF n P m J).1 = 0
  · have HG : Hid (liesF n P m J nl L = liesB m J nl L) := by
      show liesF n P m J nl L = _
      rw [HF.out]
      simp [hz]
    rw [decide_eq_true hz] at he
    subst he
    clear HF hz
    go_wp2_with fail
    refine (l22lies27 pa n pc ja m jc J la nl lc L _ hm hl (hJ.mono (Nat.le_refl _) hB (Nat.le_refl _)) (hL.mono (Nat.le_refl _) hB (Nat.le_refl _))).mono ?_
    rintro e w2 ⟨he, hb2⟩
    subst he
    go_wp2_with fail
    go_ret
    exact ⟨by rw [HG.out] <;> rfl, hB.trans (hb2.mono hB.size)⟩
  · have HG : Hid (liesF n P m J nl L = false) := by
      show liesF n P m J nl L = _
      rw [HF.out]
      simp [hz]
    rw [decide_eq_false hz] at he
    subst he
    clear HF hz
    go_wp2_with fail
    go_ret
    exact ⟨by rw [HG.out] <;> rfl, hB⟩

set_option maxRecDepth 100000 in
set_option maxHeartbeats 4000000 in
theorem impl11 (pa : Option Addr) (n pc : Nat) (P : Nat → Pc) (ja : Option Addr) (m jc : Nat) (J : Nat → Jt) (la : Option Addr) (nl lc : Nat) (L : Nat → Int) (w : World) (hn : n ≤ 1048576) (hm : m ≤ 1048576) (hl : nl ≤ 1048576) (hpc : n ≤ pc) (hpm : pc ≤ maxLen) (hjc : m ≤ jc) (hjm : jc ≤ maxLen) (hP : PsAt 0 w pa n P) (hJ : JsAt 0 w ja m J) (hps : ∀ i, i < n → (P i).nm.size ≤ maxLen) (hjs : ∀ i, i < m → (J i).ne ≤ 1048576 ∧ (J i).nm.size ≤ maxLen) (hL : IsAt 0 w la nl L) :
    Calls Try.prog 11 #[.agg #[.slice pa n pc, .slice ja m jc], .slice la nl lc] w fun e w' => e = .returned (.bool (liesF n P m J nl L)) ∧ Below w.heap.size w w' := by
  have Hps : Hid (∀ i, i < n → (P i).nm.size ≤ maxLen) := hps
  have Hjs : Hid (∀ i, i < m → (J i).ne ≤ 1048576 ∧ (J i).nm.size ≤ maxLen) := hjs
  clear hps hjs
  have HF : Hid (liesF n P m J nl L = (decide ((netF n P m J).1 = 0) && liesB m J nl L)) := rfl
  go_enter Try.func11, Try.ntmps11
  go_wp2_with fail
  refine (impl8 pa n pc P ja m jc J _ hn hm hpc hpm hjc hjm (hP.mono (Nat.le_refl _) (bel1 w _) (Nat.le_refl _)) (hJ.mono (Nat.le_refl _) (bel1 w _) (Nat.le_refl _)) Hps.out Hjs.out).mono ?_
  rintro e w1 ⟨rfl, hb1⟩
  have hbel : Below (w.heap.size + 1) (w.alloc (.cells #[.slice pa n pc, .slice ja m jc] 32)) w1 := hb1.mono (by simp)
  clear hb1
  obtain ⟨z0, z1, zs, hB⟩ := boxN hbel
  by_cases hz0 : (netF n P m J).1 = 0
  · have HG : Hid (liesF n P m J nl L = liesB m J nl L) := by
      show liesF n P m J nl L = _
      rw [HF.out]
      simp [hz0]
    have hz1 := (netF_zero hz0).1
    rw [hz1]
    clear hz0 hz1 HF
    by_cases hq : nl = m
    · subst hq
      have HB : Hid (liesF n P nl J nl L = allL (lieB J L) nl) := by
        show liesF n P nl J nl L = _
        rw [HG.out]
        simp [liesB]
      clear HG
      go_wp2_with fail
      go_loopw [22] (fun i wr => ∃ k : Nat, k ≤ nl ∧ i = .int .i64 k ∧ Hid (∀ q, q < k → lieB J L q = true) ∧ Below (w.heap.size + 1) (w.alloc (.cells #[.slice pa n pc, .slice ja nl jc] 32)) wr) (fun i _ => nl - (intOf i).toNat)
      case atStart => exact ⟨0, Nat.zero_le _, rfl, fun j hj => absurd hj (Nat.not_lt_zero _), hbel⟩
      case round =>
        clear hbel z0 z1 zs hB
        obtain ⟨k, hk, rfl, HA, hbel⟩ := hrel
        obtain ⟨z0, z1, zs, hB⟩ := boxN hbel
        by_cases hlt : k < nl
        · obtain ⟨b, off, rfl, _, hb, hc⟩ := (hL.mono (Nat.le_refl _) hB (Nat.le_refl _)) (by omega)
          have c0 := hc k hlt
          clear hc
          obtain ⟨jb, jo, rfl, _, hjb, hjc⟩ := (hJ.mono (Nat.le_refl _) hB (Nat.le_refl _)) (by omega)
          obtain ⟨ea, ec, j0, j1, j2, _⟩ := hjc k hlt
          clear hjc
          have hk0 : (0 : Int) ≤ (k : Int) := by omega
          have hkn : (k : Int) < (nl : Int) := by omega
          have HNO : Hid (lieB J L k = false → liesF n P nl J nl L = false) := fun e => by rw [HB.out, allL_no hlt e]
          have HGO : Hid (lieB J L k = true → ∀ q, q < k + 1 → lieB J L q = true) := fun e q hq => by
            by_cases c : q = k
            · subst c
              exact e
            · exact HA.out q (by omega)
          have HX : Hid (lieB J L k = inB (L k) 0 (mostL (J k).kd)) := rfl
          have hbel2 : Below (w.heap.size + 1) (w.alloc (.cells #[.slice pa n pc, .slice (some ⟨jb, jo, none⟩) nl jc] 32)) (wr.alloc (.cells #[.int .i64 (J k).kd, .string (J k).nm, .slice ea (J k).ne ec] 66)) := hbel.alloc (by omega) _
          go_wp2_with fail
          go_region_with (first | (go_at_call 33; refine (kindOf44 (J k).kd _).mono ?_; rintro e w2 ⟨rfl, rfl⟩) | (go_at_call 32; refine (mostLie32 (J k).kd _).mono ?_; rintro e w2 ⟨rfl, rfl⟩) | (go_at_call 31; refine (within43 (L k) 0 (mostL (J k).kd) _).mono ?_; rintro e w2 ⟨rfl, rfl⟩))
          all_goals
            cases hv : inB (L k) 0 (mostL (J k).kd) with
            | false =>
              have HFF := HNO.out (by rw [HX.out, hv])
              go_wp2_with fail
              go_ret
              exact ⟨by rw [HFF] <;> rfl, (boxN hbel2.drew).2.2.2⟩
            | true =>
              go_wp2_with fail
              go_roundw
              case rel => exact ⟨k + 1, by omega, by go_num, HGO.out (by rw [HX.out, hv]), hbel2.drew⟩
              case measure => simp [intOf]; omega
        · obtain rfl : k = nl := by omega
          have HFF : liesF n P k J k L = true := by rw [HB.out, allL_yes HA.out]
          go_wp2_with fail
          go_ret
          exact ⟨by rw [HFF] <;> rfl, hB⟩
    · have HFF : liesF n P m J nl L = false := by rw [HG.out]; simp [liesB, hq]
      have z : ((nl : Int) != (m : Int)) = true := by simp; omega
      go_wp2_with fail
      go_ret
      exact ⟨by rw [HFF] <;> rfl, hB⟩
  · have HFF : liesF n P m J nl L = false := by rw [HF.out]; simp [hz0]
    go_wp2_with fail
    go_ret
    exact ⟨by rw [HFF] <;> rfl, hB⟩

end Go.Proofs.Ytoennemahlakeaa
