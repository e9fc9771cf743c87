import Derived.Test.YtjhmaofjmalglaaGreatMc
namespace Go.Proofs.YtjhmaofjmalglaaGreat
open Go.RowKit

set_option maxRecDepth 100000 in
set_option maxHeartbeats 4000000 in
theorem againstP (a : Option Addr) (n cap : Nat) (F : Nat → Nat → Int) (p q : Nat) (a' : Option Addr) (n' cap' : Nat) (G : Nat → Nat → Int) (p' q' : Nat) (w : World) (hn : n ≤ 2097152) (hn' : n' ≤ 2097152) (hE : NsAt 3 0 w a n F) (hE' : NsAt 3 0 w a' n' G)
    (hp : p < 18446744073709551616) (hq : q < 18446744073709551616) (hp' : p' < 18446744073709551616) (hq' : q' < 18446744073709551616) (hm : ∀ i, i < n → mt p q (F i 0) = true) (hm' : ∀ i, i < n' → mt p' q' (G i 0) = true) :
    Calls Tryz.prog 62 #[.agg #[.slice a n cap, .int .u64 (p : Int), .int .u64 (q : Int)], .agg #[.slice a' n' cap', .int .u64 (p' : Int), .int .u64 (q' : Int)]] w fun e w' => ∃ r : Bool, e = .returned (.bool r) ∧ (r = true ↔ ∃ i, i < n ∧ ∃ j, j < n' ∧ AgP (F i) (G j)) ∧ Below w.heap.size w w' := by
  have HB : Hid (∀ i, i < n → ∀ j, j < n' → AgP (F i) (G j) → mt (p &&& p') (q &&& q') (F i 0) = true) := by
    intro i hi j hj h
    rw [mt_and, hm i hi, h.of, hm' j hj]
    rfl
  have hc1 : p &&& p' < 18446744073709551616 := Nat.lt_of_le_of_lt Nat.and_le_left hp
  have hc2 : q &&& q' < 18446744073709551616 := Nat.lt_of_le_of_lt Nat.and_le_left hq
  have HEN : Hid (NsAt 3 0 w a' n' G) := hE'
  have hmf : ∀ (fn : Fn) (first cap : Array Value) (w : World), (Instr.makeFunc fn first cap).run Tryz.prog w = .ok (.func fn first cap) w := fun _ _ _ _ => rfl
  clear hm hm' hE'
  go_enter Tryz.func62, Tryz.ntmps62
  go_wp2_with fail
  have b0 := bel2 w (.cells #[.slice a n cap, .int .u64 (p : Int), .int .u64 (q : Int)] 109) (.cells #[.slice a' n' cap', .int .u64 (p' : Int), .int .u64 (q' : Int)] 109)
  have A0 := (Box.new w 109 #[.slice a n cap, .int .u64 (p : Int), .int .u64 (q : Int)]).alloc (.cells #[.slice a' n' cap', .int .u64 (p' : Int), .int .u64 (q' : Int)] 109)
  have X0 : Box ((w.alloc (.cells #[.slice a n cap, .int .u64 (p : Int), .int .u64 (q : Int)] 109)).alloc (.cells #[.slice a' n' cap', .int .u64 (p' : Int), .int .u64 (q' : Int)] 109)) (w.heap.size + 1) 109 #[.slice a' n' cap', .int .u64 (p' : Int), .int .u64 (q' : Int)] := by
    have := Box.new (w.alloc (.cells #[.slice a n cap, .int .u64 (p : Int), .int .u64 (q : Int)] 109)) 109 #[.slice a' n' cap', .int .u64 (p' : Int), .int .u64 (q' : Int)]
    simpa using this
  refine (and66 p q p' q' _ hp hq hp' hq').mono ?_
  rintro e w1 ⟨rfl, hb1⟩
  have B1 := b0.trans (hb1.mono b0.size)
  have A1 := A0.mono hb1 (Nat.le_refl _)
  have X1 := X0.mono hb1 (Nat.le_refl _)
  generalize p &&& p' = cc at *
  generalize q &&& q' = dd at *
  have a0 : w1.cell? ⟨w.heap.size, 0, none⟩ = some (.slice a n cap) := A1.cell 0
  have hal := A1.lt
  have HX1 : Hid (Box w1 (w.heap.size + 1) 109 #[.slice a' n' cap', .int .u64 (p' : Int), .int .u64 (q' : Int)]) := X1
  clear b0 A0 X0 A1 X1 hb1
  by_cases hz : cc = 0 ∧ dd = 0
  · obtain ⟨rfl, rfl⟩ := hz
    have heq := eq81 0 0 0 0
    go_wp2_with fail
    go_ret
    exact ⟨false, rfl, ⟨fun h => (by cases h), fun ⟨i, hi, j, hj, h⟩ => by have := HB.out i hi j hj h; rw [mt_zero] at this; cases this⟩, B1.alloc B1.size _⟩
  · have heq := eq81 (cc : Int) (dd : Int) 0 0
    have hz' : ((cc : Int) == 0 && (dd : Int) == 0) = false := by
      rw [Bool.eq_false_iff]
      intro h
      simp only [Bool.and_eq_true, beq_iff_eq] at h
      exact hz ⟨by omega, by omega⟩
    rw [hz'] at heq
    clear hz hz'
    go_wp2_with fail
    go_loopw [19] (fun i wr => ∃ (k : Nat), k ≤ n ∧ i = .int .i64 k ∧ Hid (∀ i, i < k → ∀ j, j < n' → ¬ AgP (F i) (G j)) ∧ Hid (Box wr (w.heap.size + 1) 109 #[.slice a' n' cap', .int .u64 (p' : Int), .int .u64 (q' : Int)]) ∧ Hid (Box wr w1.heap.size 107 #[.int .u64 (cc : Int), .int .u64 (dd : Int)]) ∧ Below w.heap.size w wr) (fun i _ => n - (intOf i).toNat)
    case atStart => exact ⟨0, Nat.zero_le _, rfl, fun i hi => absurd hi (Nat.not_lt_zero _), HX1.out.alloc _, Box.new w1 107 _, B1.alloc B1.size _⟩
    case round =>
      obtain ⟨k, hk, rfl, HA, HX, HC, hbel⟩ := hrel
      by_cases hlt : k < n
      · obtain ⟨b, off, rfl, _, hb, hc⟩ := (hE.mono (Nat.le_refl _) hbel (Nat.le_refl _)) (by omega)
        have c0 : wr.cell? ⟨b, off + k * 3, none⟩ = some (.int .i64 (F k 0)) := hc k hlt 0 (by omega)
        have c1 : wr.cell? ⟨b, off + k * 3 + 1, none⟩ = some (.int .i64 (F k 1)) := hc k hlt 1 (by omega)
        have c2 : wr.cell? ⟨b, off + k * 3 + 2, none⟩ = some (.int .i64 (F k 2)) := hc k hlt 2 (by omega)
        clear hc
        have HC1 : Hid (Box (wr.alloc (.cells #[.int .i64 (F k 0), .int .i64 (F k 1), .int .i64 (F k 2)] 112)).drew w1.heap.size 107 #[.int .u64 (cc : Int), .int .u64 (dd : Int)]) := (HC.out.alloc _).drew
        have HX1 : Hid (Box (wr.alloc (.cells #[.int .i64 (F k 0), .int .i64 (F k 1), .int .i64 (F k 2)] 112)).drew (w.heap.size + 1) 109 #[.slice a' n' cap', .int .u64 (p' : Int), .int .u64 (q' : Int)]) := (HX.out.alloc _).drew
        have HD1 : Hid (Below w.heap.size w (wr.alloc (.cells #[.int .i64 (F k 0), .int .i64 (F k 1), .int .i64 (F k 2)] 112)).drew) := (hbel.alloc hbel.size _).drew
        have y1 : wr.cell? ⟨w1.heap.size, 0, none⟩ = some (.int .u64 (cc : Int)) := HC.out.cell 0
        have y2 : wr.cell? ⟨w1.heap.size, 1, none⟩ = some (.int .u64 (dd : Int)) := HC.out.cell 1
        have hcl := HC.out.lt
        have hme := methP
        clear HX HC
        by_cases hmt : mt cc dd (F k 0) = true
        · have HMT : Hid (mt cc dd (F k 0) = true) := hmt
          clear hmt
          go_wp2_with fail
          go_region_with (first | (go_at_call 168; refine (ofP (F k) _).mono ?_; rintro e w2 ⟨rfl, hb2⟩; have x1 : w2.cell? ⟨w1.heap.size, 0, none⟩ = some (.int .u64 (cc : Int)) := (HC1.out.mono hb2 (Nat.le_refl _)).cell 0; have x2 : w2.cell? ⟨w1.heap.size, 1, none⟩ = some (.int .u64 (dd : Int)) := (HC1.out.mono hb2 (Nat.le_refl _)).cell 1) | (go_at_call 105; refine (has67 cc dd (F k 0) _ hc1 hc2).mono ?_; rintro e w3 ⟨rfl, hb3⟩; rw [HMT.out]; have hb23 := hb2.trans (hb3.mono hb2.size); have e0 : w3.cell? ⟨wr.heap.size, 0, none⟩ = some (.int .i64 (F k 0)) := (hb23.cell (p := ⟨wr.heap.size, 0, none⟩) (by simp)).trans (by simp); have e1 : w3.cell? ⟨wr.heap.size, 1, none⟩ = some (.int .i64 (F k 1)) := (hb23.cell (p := ⟨wr.heap.size, 1, none⟩) (by simp)).trans (by simp); have e2 : w3.cell? ⟨wr.heap.size, 2, none⟩ = some (.int .i64 (F k 2)) := (hb23.cell (p := ⟨wr.heap.size, 2, none⟩) (by simp)).trans (by simp); have z0 : w3.cell? ⟨w.heap.size + 1, 0, none⟩ = some (.slice a' n' cap') := (HX1.out.mono hb23 (Nat.le_refl _)).cell 0) | (go_at_call 106; refine (containsP (F k) a' n' cap' G _ hn' ((HEN.out.mono (Nat.le_refl _) HD1.out (Nat.le_refl _)).mono (Nat.le_refl _) hb23 (Nat.le_refl _))).mono ?_; rintro e w4 ⟨bb, rfl, hbb, hb4⟩))
          all_goals
            have hb24 := hb23.trans (hb4.mono hb23.size)
            have BX := HX1.out.mono hb24 (Nat.le_refl _)
            have BC := HC1.out.mono hb24 (Nat.le_refl _)
            have BD := HD1.out.trans (hb24.mono HD1.out.size)
            have HBX : Hid (Box w4 (w.heap.size + 1) 109 #[.slice a' n' cap', .int .u64 (p' : Int), .int .u64 (q' : Int)]) := BX
            have HBC : Hid (Box w4 w1.heap.size 107 #[.int .u64 (cc : Int), .int .u64 (dd : Int)]) := BC
            have HBB : Hid (bb = true ↔ ∃ q, q < n' ∧ AgP (F k) (G q)) := hbb
            clear BX BC hb24 hb23 hb4 hb3 hb2 hbb x1 x2 y1 y2 HX1 HC1
            cases bb with
            | true =>
              have HV : Hid (∃ i, i < n ∧ ∃ j, j < n' ∧ AgP (F i) (G j)) := ⟨k, hlt, HBB.out.1 rfl⟩
              clear HBB
              go_wp2_with fail
              go_ret
              exact ⟨true, rfl, ⟨fun _ => HV.out, fun _ => rfl⟩, BD⟩
            | false =>
              have HV : Hid (∀ i, i < k + 1 → ∀ j, j < n' → ¬ AgP (F i) (G j)) := by
                intro i hi j hj h
                by_cases e : i = k
                · subst e
                  have := HBB.out.2 ⟨j, hj, h⟩
                  cases this
                · exact HA.out i (by omega) j hj h
              clear HBB
              go_wp2_with fail
              go_roundw
              case rel => exact ⟨k + 1, by omega, by go_num, HV, HBX, HBC, BD⟩
              case measure => simp [intOf]; omega
        · have HMT : Hid (mt cc dd (F k 0) = false) := Bool.eq_false_iff.2 hmt
          have HV : Hid (∀ i, i < k + 1 → ∀ j, j < n' → ¬ AgP (F i) (G j)) := by
            intro i hi j hj h
            by_cases e : i = k
            · subst e; exact hmt (HB.out i hlt j hj h)
            · exact HA.out i (by omega) j hj h
          clear hmt
          go_wp2_with fail
          first
            | go_region_with (first | (go_at_call 168; refine (ofP (F k) _).mono ?_; rintro e w2 ⟨rfl, hb2⟩; have x1 : w2.cell? ⟨w1.heap.size, 0, none⟩ = some (.int .u64 (cc : Int)) := (HC1.out.mono hb2 (Nat.le_refl _)).cell 0; have x2 : w2.cell? ⟨w1.heap.size, 1, none⟩ = some (.int .u64 (dd : Int)) := (HC1.out.mono hb2 (Nat.le_refl _)).cell 1) | (go_at_call 105; refine (has67 cc dd (F k 0) _ hc1 hc2).mono ?_; rintro e w3 ⟨rfl, hb3⟩; rw [HMT.out]; have hb23 := hb2.trans (hb3.mono hb2.size)))
            | fail
          all_goals
            have BX := HX1.out.mono hb23 (Nat.le_refl _)
            have BC := HC1.out.mono hb23 (Nat.le_refl _)
            have BD := HD1.out.trans (hb23.mono HD1.out.size)
            have HBX : Hid (Box w3 (w.heap.size + 1) 109 #[.slice a' n' cap', .int .u64 (p' : Int), .int .u64 (q' : Int)]) := BX
            have HBC : Hid (Box w3 w1.heap.size 107 #[.int .u64 (cc : Int), .int .u64 (dd : Int)]) := BC
            clear BX BC hb23 hb3 hb2 x1 x2 y1 y2 HX1 HC1
            go_wp2_with fail
            go_roundw
            case rel => exact ⟨k + 1, by omega, by go_num, HV, HBX, HBC, BD⟩
            case measure => simp [intOf]; omega
      · obtain rfl : k = n := by omega
        go_wp2_with fail
        go_ret
        exact ⟨false, rfl, ⟨fun h => (by cases h), fun ⟨i, hi, j, hj, h⟩ => absurd h (HA.out i hi j hj)⟩, hbel⟩

end Go.Proofs.YtjhmaofjmalglaaGreat
