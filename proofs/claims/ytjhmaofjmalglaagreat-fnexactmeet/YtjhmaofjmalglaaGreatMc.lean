import Derived.Test.YtjhmaofjmalglaaGreatMb
namespace Go.Proofs.YtjhmaofjmalglaaGreat
open Go.RowKit

theorem methP (v : Value) (w : World) : (method 337 112 v "loop.example/signalbox/impl.of").run Tryz.prog w = .ok (168, v) w := by kernel_rfl

set_option maxRecDepth 100000 in
set_option maxHeartbeats 2000000 in
theorem wishesP (a : Option Addr) (n cap : Nat) (G : Nat → Nat → Int) (w : World) (hn : n ≤ 2097152) (hE : NsAt 3 0 w a n G) :
    Calls Tryz.prog 60 #[.slice a n cap] w fun e w' => ∃ p q : Nat, e = .returned (.agg #[.slice a n cap, .int .u64 (p : Int), .int .u64 (q : Int)]) ∧ p < 18446744073709551616 ∧ q < 18446744073709551616 ∧ (∀ i, i < n → mt p q (G i 0) = true) ∧ Below w.heap.size w w' := by
  go_enter Tryz.func60, Tryz.ntmps60
  go_wp2_with fail
  go_loopw [10] (fun i wr => ∃ (k p q : Nat), k ≤ n ∧ i = .int .i64 k ∧ p < 18446744073709551616 ∧ q < 18446744073709551616 ∧ Hid (∀ i, i < k → mt p q (G i 0) = true) ∧ Hid (Box wr w.heap.size 109 #[.slice none 0 0, .int .u64 0, .int .u64 0]) ∧ Hid (Box wr (w.heap.size + 1) 109 #[.slice a n cap, .int .u64 (p : Int), .int .u64 (q : Int)]) ∧ Below w.heap.size w wr) (fun i _ => n - (intOf i).toNat)
  case atStart =>
    refine ⟨0, 0, 0, Nat.zero_le _, rfl, by decide, by decide, fun i hi => absurd hi (Nat.not_lt_zero _), ?_, ?_, bel2 _ _ _⟩
    · exact (Box.new w 109 _).alloc _
    · have := Box.new (w.alloc (.cells #[.slice none 0 0, .int .u64 0, .int .u64 0] 109)) 109 #[.slice a n cap, .int .u64 0, .int .u64 0]
      exact (by simpa using this : Box _ (w.heap.size + 1) 109 _)
  case round =>
    obtain ⟨k, p, q, hk, rfl, hp, hq, HM, HR, HO, hbel⟩ := hrel
    by_cases hlt : k < n
    · obtain ⟨b, off, rfl, _, hb, hc⟩ := (hE.mono (Nat.le_refl _) hbel (Nat.le_refl _)) (by omega)
      have c0 : wr.cell? ⟨b, off + k * 3, none⟩ = some (.int .i64 (G k 0)) := hc k hlt 0 (by omega)
      have c1 : wr.cell? ⟨b, off + k * 3 + 1, none⟩ = some (.int .i64 (G k 1)) := hc k hlt 1 (by omega)
      have c2 : wr.cell? ⟨b, off + k * 3 + 2, none⟩ = some (.int .i64 (G k 2)) := hc k hlt 2 (by omega)
      clear hc
      have HM1 : Hid (∀ i, i < k + 1 → mt (mA p (G k 0)) (mB q (G k 0)) (G i 0) = true) := by
        intro i hi
        by_cases e : i = k
        · subst e; exact mt_new _ _ _
        · exact mt_keep (HM.out i (by omega))
      have hp1 := mA_lt hp (G k 0)
      have hq1 := mB_lt hq (G k 0)
      have HOa : Hid (Box (wr.alloc (.cells #[.int .i64 (G k 0), .int .i64 (G k 1), .int .i64 (G k 2)] 112)) (w.heap.size + 1) 109 #[.slice (some ⟨b, off, none⟩) n cap, .int .u64 (p : Int), .int .u64 (q : Int)]) := HO.out.alloc _
      have HRa : Hid (Box (wr.alloc (.cells #[.int .i64 (G k 0), .int .i64 (G k 1), .int .i64 (G k 2)] 112)) w.heap.size 109 #[.slice none 0 0, .int .u64 0, .int .u64 0]) := HR.out.alloc _
      have HBa : Hid (Below w.heap.size w (wr.alloc (.cells #[.int .i64 (G k 0), .int .i64 (G k 1), .int .i64 (G k 2)] 112)).drew) := (hbel.alloc hbel.size _).drew
      have o1 : wr.cell? ⟨w.heap.size + 1, 1, none⟩ = some (.int .u64 (p : Int)) := HO.out.cell 1
      have o2 : wr.cell? ⟨w.heap.size + 1, 2, none⟩ = some (.int .u64 (q : Int)) := HO.out.cell 2
      have hOl := HO.out.lt
      have hme := methP
      clear HM
      go_wp2_with fail
      go_region_with (first | (go_at_call 101; refine (with65 p q (G k 0) _ hp hq).mono ?_; rintro e w2 ⟨rfl, hb2⟩; have BO2 := BO1.mono hb2 (Nat.le_refl _); have z1 : w2.cell? ⟨w.heap.size + 1, 1, none⟩ = some (.int .u64 (p : Int)) := BO2.cell 1; have z2 : w2.cell? ⟨w.heap.size + 1, 2, none⟩ = some (.int .u64 (q : Int)) := BO2.cell 2; have zf1 := BO2.free 1; have zf2 := BO2.free 2; clear y1 y2; have HO2 : Hid (Box w2 (w.heap.size + 1) 109 #[.slice (some ⟨b, off, none⟩) n cap, .int .u64 (p : Int), .int .u64 (q : Int)]) := BO2; clear BO2 BO1) | (go_at_call 168; refine (ofP (G k) _).mono ?_; rintro e w1 ⟨rfl, hb1⟩; have BO1 := HOa.out.drew.mono hb1 (Nat.le_refl _); have y1 : w1.cell? ⟨w.heap.size + 1, 1, none⟩ = some (.int .u64 (p : Int)) := BO1.cell 1; have y2 : w1.cell? ⟨w.heap.size + 1, 2, none⟩ = some (.int .u64 (q : Int)) := BO1.cell 2))
      all_goals
        go_wp2_with fail
        have hb12 := hb1.trans (hb2.mono hb1.size)
        have zz := hbel.size
        go_roundw
        case rel =>
          refine ⟨k + 1, mA p (G k 0), mB q (G k 0), by omega, by go_num, hp1, hq1, HM1, ?_, ?_, ?_⟩
          · exact (((HRa.out.drew.mono hb12 (Nat.le_refl _)).other (p := ⟨w.heap.size + 1, 1, none⟩) (by show w.heap.size ≠ w.heap.size + 1; omega) _).other (p := ⟨w.heap.size + 1, 2, none⟩) (by show w.heap.size ≠ w.heap.size + 1; omega) _)
          · exact (by simpa using (HO2.out.set 1 (.int .u64 ((mA p (G k 0) : Nat) : Int))).set 2 (.int .u64 ((mB q (G k 0) : Nat) : Int)) : Box _ (w.heap.size + 1) 109 _)
          · exact ((HBa.out.trans (hb12.mono HBa.out.size)).setCell (by show w.heap.size ≤ w.heap.size + 1; omega) _).setCell (by show w.heap.size ≤ w.heap.size + 1; omega) _
        case measure => simp [intOf]; omega
    · obtain rfl : k = n := by omega
      have o0 : wr.cell? ⟨w.heap.size + 1, 0, none⟩ = some (.slice a k cap) := HO.out.cell 0
      have o1 : wr.cell? ⟨w.heap.size + 1, 1, none⟩ = some (.int .u64 (p : Int)) := HO.out.cell 1
      have o2 : wr.cell? ⟨w.heap.size + 1, 2, none⟩ = some (.int .u64 (q : Int)) := HO.out.cell 2
      have r0 : wr.cell? ⟨w.heap.size, 0, none⟩ = some (.slice none 0 0) := HR.out.cell 0
      have r1 : wr.cell? ⟨w.heap.size, 1, none⟩ = some (.int .u64 0) := HR.out.cell 1
      have r2 : wr.cell? ⟨w.heap.size, 2, none⟩ = some (.int .u64 0) := HR.out.cell 2
      have f0 := HR.out.free 0
      have f1 := HR.out.free 1
      have f2 := HR.out.free 2
      go_wp2_with fail
      exact bodyPost_ret (v := .agg #[.slice a k cap, .int .u64 (p : Int), .int .u64 (q : Int)]) (by simp [results, Tryz.results60, go_sem, r0, r1, r2]) rfl ⟨p, q, rfl, hp, hq, HM.out, ((hbel.setCell (Nat.le_refl _) _).setCell (Nat.le_refl _) _).setCell (Nat.le_refl _) _⟩

end Go.Proofs.YtjhmaofjmalglaaGreat
