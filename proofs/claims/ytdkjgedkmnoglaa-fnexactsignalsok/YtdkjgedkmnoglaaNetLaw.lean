import Derived.Test.YtdkjgedkmnoglaaImpl
import Derived.Test.YtdkjgedkmnoglaaSz
import Derived.Test.YtdkjgedkmnoglaaTo
import Derived.Test.YtdkjgedkmnoglaaEq
import Derived.Deep.RegionWith
namespace Go.Proofs.Ytdkjgedkmnoglaa
open Go.RowKit

theorem cell_keep {B : Nat} {W w1 : World} {b o : Nat} {v : Value} (hb : Below B W w1) (hlt : b < B) (h : W.cell? ⟨b, o, none⟩ = some v) : w1.cell? ⟨b, o, none⟩ = some v := (hb.cell (p := ⟨b, o, none⟩) hlt).trans h

set_option maxRecDepth 100000 in
set_option maxHeartbeats 4000000 in
theorem law3 (pa : Option Addr) (n pc : Nat) (P : Nat → Pc) (ja : Option Addr) (m jc : Nat) (J : Nat → Jt) (w : World) (hn : n ≤ maxLen) (hm : m ≤ maxLen)
    (hP : PsAt 0 w pa n P) (hJ : JsAt 0 w ja m J) (hps : ∀ i, i < n → (P i).nm.size ≤ maxLen) (hjs : ∀ i, i < m → (J i).nm.size ≤ maxLen ∧ (J i).ne ≤ maxLen) :
    Calls Try.prog 3 #[.agg #[.slice pa n pc, .slice ja m jc]] w fun e w' => e = .returned (.bool true) ∧ Below w.heap.size w w' := by
  have Hjs : Hid (∀ i, i < m → (J i).nm.size ≤ maxLen ∧ (J i).ne ≤ maxLen) := hjs
  have Hps : Hid (∀ i, i < n → (P i).nm.size ≤ maxLen) := hps
  clear hjs hps
  go_enter Try.func3, Try.ntmps3
  go_wp2_with fail
  have b0 := bel1 w (.cells #[.slice pa n pc, .slice ja m jc] 25)
  have a0 : (w.alloc (.cells #[.slice pa n pc, .slice ja m jc] 25)).cell? ⟨w.heap.size, 0, none⟩ = some (.slice pa n pc) := by simp
  have a1 : (w.alloc (.cells #[.slice pa n pc, .slice ja m jc] 25)).cell? ⟨w.heap.size, 1, none⟩ = some (.slice ja m jc) := by simp
  have s0 : w.heap.size < (w.alloc (.cells #[.slice pa n pc, .slice ja m jc] 25)).heap.size := by simp
  refine (szNet5 pa n pc P ja m jc J 1048576 _ hn hm (by omega) (by omega) (hP.mono (Nat.le_refl _) b0 (Nat.le_refl _)) (hJ.mono (Nat.le_refl _) b0 (Nat.le_refl _)) Hps.out Hjs.out).mono ?_
  rintro e w1 ⟨r, rfl, hr1, hr2, hb1⟩
  have B1 := b0.trans (hb1.mono b0.size)
  have a0 := cell_keep hb1 s0 a0
  have a1 := cell_keep hb1 s0 a1
  have s1 : w.heap.size < w1.heap.size := Nat.lt_of_lt_of_le s0 hb1.size
  clear s0 b0 hb1
  by_cases hneg : r < 0
  · clear hr2
    go_wp2_with fail
    go_ret
    exact ⟨rfl, B1⟩
  · obtain ⟨hn2, hm2, hne2⟩ := hr2 (by omega)
    have hn' : n ≤ 1048576 := by omega
    have hm' : m ≤ 1048576 := by omega
    have Hne : Hid (∀ i, i < m → (J i).ne ≤ 1048576) := fun i hi => by have := hne2 i hi; omega
    have Hjs2 : Hid (∀ i, i < m → (J i).ne ≤ 1048576 ∧ (J i).nm.size ≤ maxLen) := fun i hi => ⟨Hne.out i hi, (Hjs.out i hi).1⟩
    clear hr2 hne2 hn2 hm2
    go_wp2_with fail
    refine (toNet7 pa n pc P ja m jc J _ hn' hm' (hP.mono (Nat.le_refl _) B1 (Nat.le_refl _)) (hJ.mono (Nat.le_refl _) B1 (Nat.le_refl _)) Hne.out).mono ?_
    rintro e w2 ⟨pa1, ja1, rfl, hP2, hJ2, hb2⟩
    have B2 := B1.trans (hb2.mono B1.size)
    have a0 := cell_keep hb2 s1 a0
    have a1 := cell_keep hb2 s1 a1
    have s2 : w.heap.size < w2.heap.size := Nat.lt_of_lt_of_le s1 hb2.size
    clear s1 B1 hb2
    go_wp2_with fail
    refine (spec6 pa1 n n P ja1 m m J _ hn' hm' (hP2.keep (Nat.zero_le _) (Nat.le_refl _) fun _ _ _ => rfl) (hJ2.keep (Nat.zero_le _) (Nat.le_refl _) fun _ _ _ => rfl) Hps.out Hjs2.out).mono ?_
    rintro e w3 ⟨rfl, hb3⟩
    have B3 := B2.trans (hb3.mono B2.size)
    have a0 := cell_keep hb3 s2 a0
    have a1 := cell_keep hb3 s2 a1
    have s3 : w.heap.size < w3.heap.size := Nat.lt_of_lt_of_le s2 hb3.size
    clear s2 B2 hb3 hP2 hJ2
    have HI : Hid (∀ (W : World) (pa ja : Option Addr), PsAt 0 W pa n P → JsAt 0 W ja m J → Calls Try.prog 8 #[.agg #[.slice pa n n, .slice ja m m]] W fun r w' => r = .returned (.agg #[.int .i64 (netF n P m J).1, .int .i64 (netF n P m J).2]) ∧ Below W.heap.size W w') := fun W pa ja h1 h2 =>
      impl8 pa n n P ja m m J W hn' hm' (Nat.le_refl _) hn (Nat.le_refl _) hm h1 h2 Hps.out Hjs2.out
    generalize (netF n P m J).1 = c at *
    generalize (netF n P m J).2 = d at *
    go_wp2_with fail
    have b4 := bel1 w3 (.cells #[.int .i64 c, .int .i64 d] 28)
    have B4 := B3.trans (b4.mono B3.size)
    have q0 : (w3.alloc (.cells #[.int .i64 c, .int .i64 d] 28)).cell? ⟨w3.heap.size, 0, none⟩ = some (.int .i64 c) := by simp
    have q1 : (w3.alloc (.cells #[.int .i64 c, .int .i64 d] 28)).cell? ⟨w3.heap.size, 1, none⟩ = some (.int .i64 d) := by simp
    have t4 : w3.heap.size < (w3.alloc (.cells #[.int .i64 c, .int .i64 d] 28)).heap.size := by simp
    have a0 := cell_keep b4 s3 a0
    have a1 := cell_keep b4 s3 a1
    refine (toNet7 pa n pc P ja m jc J _ hn' hm' (hP.mono (Nat.le_refl _) B4 (Nat.le_refl _)) (hJ.mono (Nat.le_refl _) B4 (Nat.le_refl _)) Hne.out).mono ?_
    rintro e w4 ⟨pa2, ja2, rfl, hP4, hJ4, hb4⟩
    have B5 := B4.trans (hb4.mono B4.size)
    have s4 : w.heap.size < (w3.alloc (.cells #[.int .i64 c, .int .i64 d] 28)).heap.size := Nat.lt_of_lt_of_le s3 b4.size
    have a0 := cell_keep hb4 s4 a0
    have a1 := cell_keep hb4 s4 a1
    have q0 := cell_keep hb4 t4 q0
    have q1 := cell_keep hb4 t4 q1
    have s5 : w.heap.size < w4.heap.size := Nat.lt_of_lt_of_le s4 hb4.size
    have t5 : w3.heap.size < w4.heap.size := Nat.lt_of_lt_of_le t4 hb4.size
    have hP5 : PsAt 0 w4 pa2 n P := hP4.keep (Nat.zero_le _) (Nat.le_refl _) fun _ _ _ => rfl
    have hJ5 : JsAt 0 w4 ja2 m J := hJ4.keep (Nat.zero_le _) (Nat.le_refl _) fun _ _ _ => rfl
    clear s3 s4 t4 b4 B3 B4 hb4 hP4 hJ4
    go_wp2_with fail
    have b6 := bel1 w4 (.cells #[.slice pa2 n n, .slice ja2 m m] 33)
    have B6 := B5.trans (b6.mono B5.size)
    have hP6 := hP5.mono (Nat.le_refl _) b6 (Nat.le_refl _)
    have hJ6 := hJ5.mono (Nat.le_refl _) b6 (Nat.le_refl _)
    have x0 : (w4.alloc (.cells #[.slice pa2 n n, .slice ja2 m m] 33)).cell? ⟨w4.heap.size, 0, none⟩ = some (.slice pa2 n n) := by simp
    have x1 : (w4.alloc (.cells #[.slice pa2 n n, .slice ja2 m m] 33)).cell? ⟨w4.heap.size, 1, none⟩ = some (.slice ja2 m m) := by simp
    have u6 : w4.heap.size < (w4.alloc (.cells #[.slice pa2 n n, .slice ja2 m m] 33)).heap.size := by simp
    have s6 := Nat.lt_of_lt_of_le s5 b6.size
    have t6 := Nat.lt_of_lt_of_le t5 b6.size
    have a0 := cell_keep b6 s5 a0
    have a1 := cell_keep b6 s5 a1
    have q0 := cell_keep b6 t5 q0
    have q1 := cell_keep b6 t5 q1
    refine (HI.out _ pa2 ja2 hP6 hJ6).mono ?_
    rintro e w5 ⟨rfl, hb5⟩
    have B7 := B6.trans (hb5.mono B6.size)
    have hP7 := hP6.mono (Nat.le_refl _) hb5 (Nat.le_refl _)
    have hJ7 := hJ6.mono (Nat.le_refl _) hb5 (Nat.le_refl _)
    have a0 := cell_keep hb5 s6 a0
    have a1 := cell_keep hb5 s6 a1
    have q0 := cell_keep hb5 t6 q0
    have q1 := cell_keep hb5 t6 q1
    have x0 := cell_keep hb5 u6 x0
    have x1 := cell_keep hb5 u6 x1
    have s7 := Nat.lt_of_lt_of_le s6 hb5.size
    have t7 := Nat.lt_of_lt_of_le t6 hb5.size
    have u7 := Nat.lt_of_lt_of_le u6 hb5.size
    clear s5 s6 t5 t6 u6 b6 B5 B6 hP5 hJ5 hP6 hJ6 hb5 HI
    go_wp2_with fail
    have b8 := bel1 w5 (.cells #[.int .i64 c, .int .i64 d] 28)
    refine (eqFault9 c d _).mono ?_
    rintro e w6 ⟨rfl, hb6⟩
    have B8 := (B7.trans (b8.mono B7.size)).trans (hb6.mono (Nat.le_trans B7.size b8.size))
    have hP8 := (hP7.mono (Nat.le_refl _) b8 (Nat.le_refl _)).mono (Nat.le_refl _) hb6 (Nat.le_refl _)
    have hJ8 := (hJ7.mono (Nat.le_refl _) b8 (Nat.le_refl _)).mono (Nat.le_refl _) hb6 (Nat.le_refl _)
    have a0 := cell_keep hb6 (Nat.lt_of_lt_of_le s7 b8.size) (cell_keep b8 s7 a0)
    have a1 := cell_keep hb6 (Nat.lt_of_lt_of_le s7 b8.size) (cell_keep b8 s7 a1)
    have x0 := cell_keep hb6 (Nat.lt_of_lt_of_le u7 b8.size) (cell_keep b8 u7 x0)
    have x1 := cell_keep hb6 (Nat.lt_of_lt_of_le u7 b8.size) (cell_keep b8 u7 x1)
    have u8 := Nat.lt_of_lt_of_le (Nat.lt_of_lt_of_le u7 b8.size) hb6.size
    clear s7 t7 u7 b8 B7 hP7 hJ7 hb6 q0 q1
    have hP8 := hP8.mono (Nat.le_refl _) (Below.refl w6.heap.size w6).drew (Nat.le_refl _)
    have hJ8 := hJ8.mono (Nat.le_refl _) (Below.refl w6.heap.size w6).drew (Nat.le_refl _)
    have hPa := hP.mono (Nat.le_refl _) B8.drew (Nat.le_refl _)
    have hJa := hJ.mono (Nat.le_refl _) B8.drew (Nat.le_refl _)
    go_wp2_with fail
    go_region_with (first | (go_at_call 7; refine (toNet7 pa n pc P ja m jc J _ hn' hm' hPa hJa Hne.out).mono ?_; rintro e w7 ⟨pa3, ja3, rfl, hP9, hJ9, hb7⟩; have x0 := cell_keep hb7 u8 x0; have x1 := cell_keep hb7 u8 x1) | (go_at_call 10; refine (eqNet10 pa2 pa3 n n n P ja2 ja3 m m m J _ hn' hm' (hP8.mono (Nat.le_refl _) hb7 (Nat.le_refl _)) (hP9.keep (Nat.zero_le _) (Nat.le_refl _) fun _ _ _ => rfl) (hJ8.mono (Nat.le_refl _) hb7 (Nat.le_refl _)) (hJ9.keep (Nat.zero_le _) (Nat.le_refl _) fun _ _ _ => rfl) Hne.out).mono ?_; rintro e w8 ⟨rfl, hb8⟩))
    all_goals
      go_wp2_with fail
      go_ret
      exact ⟨rfl, (B8.drew.trans (hb7.mono B8.drew.size)).trans (hb8.mono (Nat.le_trans B8.drew.size hb7.size))⟩

end Go.Proofs.Ytdkjgedkmnoglaa
