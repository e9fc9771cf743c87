import Derived.Test.YtoennemahlakeaaLb
import Derived.Test.YtoennemahlakeaaSz
import Derived.Deep.RegionWith
namespace Go.Proofs.Ytoennemahlakeaa
open Go.RowKit

theorem cell_keep {B : Nat} {W w1 : World} {b o : Nat} {v : Value} (hb : Below B W w1) (hlt : b < B) (h : W.cell? ⟨b, o, none⟩ = some v) : w1.cell? ⟨b, o, none⟩ = some v := (hb.cell (p := ⟨b, o, none⟩) hlt).trans h

/-- a net's box: it lies below the new -/
def BoxN (w : World) (t b : Nat) (u v : Value) : Prop := w.cell? ⟨b, 0, none⟩ = some u ∧ w.cell? ⟨b, 1, none⟩ = some v ∧ b < w.heap.size ∧ t = t
theorem BoxN.mono {w w1 : World} {t b : Nat} {u v : Value} (h : BoxN w t b u v) (hb : Below w.heap.size w w1) : BoxN w1 t b u v :=
  ⟨cell_keep hb h.2.2.1 h.1, cell_keep hb h.2.2.1 h.2.1, Nat.lt_of_lt_of_le h.2.2.1 hb.size, rfl⟩
theorem BoxN.new (w : World) (t : Nat) (u v : Value) : BoxN (w.alloc (.cells #[u, v] t)) t w.heap.size u v := ⟨by simp, by simp, by simp, rfl⟩

set_option maxRecDepth 100000 in
set_option maxHeartbeats 4000000 in
theorem law3 (pa : Option Addr) (n pc : Nat) (P : Nat → Pc) (ja : Option Addr) (m jc : Nat) (J : Nat → Jt) (la : Option Addr) (nl lc : Nat) (L : Nat → Int) (w : World) (hn : n ≤ maxLen) (hm : m ≤ maxLen) (hl : nl ≤ maxLen)
    (hP : PsAt 0 w pa n P) (hJ : JsAt 0 w ja m J) (hps : ∀ i, i < n → (P i).nm.size ≤ maxLen) (hjs : ∀ i, i < m → (J i).nm.size ≤ maxLen ∧ (J i).ne ≤ maxLen) (hL : IsAt 0 w la nl L) :
    Calls Try.prog 3 #[.agg #[.slice pa n pc, .slice ja m jc], .slice la nl lc] w fun e w' => e = .returned (.bool true) ∧ Below w.heap.size w w' := by
  have Hjs : Hid (∀ i, i < m → (J i).nm.size ≤ maxLen ∧ (J i).ne ≤ maxLen) := hjs
  have Hps : Hid (∀ i, i < n → (P i).nm.size ≤ maxLen) := hps
  clear hjs hps
  unfold maxLen at hl
  by_cases hl2 : 1048576 < nl
  · have zl : decide ((1048576 : Int) < (nl : Int)) = true := by simp; omega
    go_enter Try.func3, Try.ntmps3
    go_wp2_with fail
    go_ret
    exact ⟨rfl, bel1 _ _⟩
  have zl : decide ((1048576 : Int) < (nl : Int)) = false := by simp; omega
  have hl' : nl ≤ 1048576 := by omega
  clear hl2
  have A0 := BoxN.new w 25 (.slice pa n pc) (.slice ja m jc)
  have b0 := bel1 w (.cells #[.slice pa n pc, .slice ja m jc] 25)
  go_enter Try.func3, Try.ntmps3
  go_wp2_with fail
  refine (szNet5 pa n pc P ja m jc J 1048576 _ hn hm (by omega) (by omega) (hP.mono (Nat.le_refl _) b0 (Nat.le_refl _)) (hJ.mono (Nat.le_refl _) b0 (Nat.le_refl _)) Hps.out Hjs.out).mono ?_
  rintro e w1 ⟨r, rfl, hr1, hr2, hb1⟩
  have B1 := b0.trans (hb1.mono b0.size)
  have A1 := A0.mono hb1
  clear b0 hb1 A0
  by_cases hneg : r < 0
  · clear hr2
    go_wp2_with fail
    go_ret
    exact ⟨rfl, B1⟩
  · obtain ⟨hn2, hm2, hne2⟩ := hr2 (by omega)
    have hn' : n ≤ 1048576 := by omega
    have hm' : m ≤ 1048576 := by omega
    have Hne : Hid (∀ i, i < m → (J i).ne ≤ 1048576) := fun i hi => by have := hne2 i hi; omega
    have Hjs2 : Hid (∀ i, i < m → (J i).ne ≤ 1048576 ∧ (J i).nm.size ≤ maxLen) := fun i hi => ⟨Hne.out i hi, (Hjs.out i hi).1⟩
    clear hr2 hne2 hn2 hm2
    obtain ⟨a0, a1, _, _⟩ := id A1
    go_wp2_with fail
    refine (toNet7 pa n pc P ja m jc J _ hn' hm' (hP.mono (Nat.le_refl _) B1 (Nat.le_refl _)) (hJ.mono (Nat.le_refl _) B1 (Nat.le_refl _)) Hne.out).mono ?_
    rintro e w2 ⟨pa1, ja1, rfl, hP2, hJ2, hb2⟩
    have B2 := B1.trans (hb2.mono B1.size)
    have A2 := A1.mono hb2
    clear a0 a1 A1 B1 hb2
    go_wp2_with fail
    refine (toIntS10 la nl lc L _ hl' (hL.mono (Nat.le_refl _) B2 (Nat.le_refl _))).mono ?_
    rintro e w3 ⟨la1, rfl, hL3, hb3⟩
    have B3 := B2.trans (hb3.mono B2.size)
    have A3 := A2.mono hb3
    have hP3 := hP2.mono (Nat.zero_le _) hb3 (Nat.le_refl _)
    have hJ3 := hJ2.mono (Nat.zero_le _) hb3 (Nat.le_refl _)
    clear A2 B2 hb3 hP2 hJ2
    go_wp2_with fail
    refine (spec8 pa1 n n P ja1 m m J la1 nl nl L _ hn' hm' hl' hP3 hJ3 Hps.out Hjs2.out (hL3.keep (Nat.zero_le _) (Nat.le_refl _) fun _ _ _ => rfl)).mono ?_
    rintro e w4 ⟨rfl, hb4⟩
    have B4 := B3.trans (hb4.mono B3.size)
    have A4 := A3.mono hb4
    clear A3 B3 hb4 hP3 hJ3 hL3
    have HI : Hid (∀ (W : World) (pa ja la : Option Addr), PsAt 0 W pa n P → JsAt 0 W ja m J → IsAt 0 W la nl L → Calls Try.prog 11 #[.agg #[.slice pa n n, .slice ja m m], .slice la nl nl] W fun r w' => r = .returned (.bool (liesF n P m J nl L)) ∧ Below W.heap.size W w') := fun W pa ja la h1 h2 h3 =>
      impl11 pa n n P ja m m J la nl nl L W hn' hm' hl' (Nat.le_refl _) hn (Nat.le_refl _) hm h1 h2 Hps.out Hjs2.out h3
    generalize liesF n P m J nl L = R at *
    obtain ⟨a0, a1, _, _⟩ := id A4
    go_wp2_with fail
    refine (toNet7 pa n pc P ja m jc J _ hn' hm' (hP.mono (Nat.le_refl _) B4 (Nat.le_refl _)) (hJ.mono (Nat.le_refl _) B4 (Nat.le_refl _)) Hne.out).mono ?_
    rintro e w5 ⟨pa2, ja2, rfl, hP5, hJ5, hb5⟩
    have B5 := B4.trans (hb5.mono B4.size)
    have A5 := A4.mono hb5
    clear a0 a1 A4 B4 hb5
    have X6 := BoxN.new w5 32 (.slice pa2 n n) (.slice ja2 m m)
    have b6 := bel1 w5 (.cells #[.slice pa2 n n, .slice ja2 m m] 32)
    have B6 := B5.trans (b6.mono B5.size)
    have A6 := A5.mono b6
    have hP6 := hP5.mono (Nat.zero_le _) b6 (Nat.le_refl _)
    have hJ6 := hJ5.mono (Nat.zero_le _) b6 (Nat.le_refl _)
    go_wp2_with fail
    refine (toIntS10 la nl lc L _ hl' (hL.mono (Nat.le_refl _) B6 (Nat.le_refl _))).mono ?_
    rintro e w7 ⟨la2, rfl, hL7, hb7⟩
    have B7 := B6.trans (hb7.mono B6.size)
    have A7 := A6.mono hb7
    have X7 := X6.mono hb7
    have hP7 := hP6.mono (Nat.zero_le _) hb7 (Nat.le_refl _)
    have hJ7 := hJ6.mono (Nat.zero_le _) hb7 (Nat.le_refl _)
    have hL7 : IsAt 0 w7 la2 nl L := hL7.keep (Nat.zero_le _) (Nat.le_refl _) fun _ _ _ => rfl
    generalize w5.heap.size = xb at *
    clear A6 A5 X6 b6 B6 B5 hb7 hP6 hJ6 hP5 hJ5
    obtain ⟨x0, x1, _, _⟩ := id X7
    go_wp2_with fail
    refine (HI.out _ pa2 ja2 la2 hP7 hJ7 hL7).mono ?_
    rintro e w8 ⟨rfl, hb8⟩
    have B8 := B7.trans (hb8.mono B7.size)
    have A8 := A7.mono hb8
    have X8 := X7.mono hb8
    have hP8 := (hP7.mono (Nat.le_refl _) hb8 (Nat.le_refl _)).mono (Nat.le_refl _) (Below.refl w8.heap.size w8).drew (Nat.le_refl _)
    have hJ8 := (hJ7.mono (Nat.le_refl _) hb8 (Nat.le_refl _)).mono (Nat.le_refl _) (Below.refl w8.heap.size w8).drew (Nat.le_refl _)
    have hL8 := (hL7.mono (Nat.le_refl _) hb8 (Nat.le_refl _)).mono (Nat.le_refl _) (Below.refl w8.heap.size w8).drew (Nat.le_refl _)
    clear A7 X7 B7 hb8 hP7 hJ7 hL7 HI x0 x1
    have hPa := hP.mono (Nat.le_refl _) B8.drew (Nat.le_refl _)
    have hJa := hJ.mono (Nat.le_refl _) B8.drew (Nat.le_refl _)
    have zR : (R != R) = false := by simp
    obtain ⟨a0, a1, s0, _⟩ := A8
    obtain ⟨x0, x1, s1, _⟩ := X8
    go_wp2_with fail
    go_region_with (first | (go_at_call 9; refine (toNet7 pa n pc P ja m jc J _ hn' hm' hPa hJa Hne.out).mono ?_; rintro e w9 ⟨pa3, ja3, rfl, hP9, hJ9, hb9⟩; have x0 := cell_keep hb9 s1 x0; have x1 := cell_keep hb9 s1 x1) | (go_at_call 12; refine (eqNet10 pa2 pa3 n n n P ja2 ja3 m m m J _ hn' hm' (hP8.mono (Nat.le_refl _) hb9 (Nat.le_refl _)) (hP9.keep (Nat.zero_le _) (Nat.le_refl _) fun _ _ _ => rfl) (hJ8.mono (Nat.le_refl _) hb9 (Nat.le_refl _)) (hJ9.keep (Nat.zero_le _) (Nat.le_refl _) fun _ _ _ => rfl) Hne.out).mono ?_; rintro e w10 ⟨rfl, hb10⟩))
    all_goals
      have B9 := (B8.drew.trans (hb9.mono B8.drew.size)).trans (hb10.mono (Nat.le_trans B8.drew.size hb9.size))
      have hL9 := (hL8.mono (Nat.le_refl _) hb9 (Nat.le_refl _)).mono (Nat.le_refl _) hb10 (Nat.le_refl _)
      clear hb9 hb10 hP9 hJ9 hP8 hJ8 hL8 B8 x0 x1 a0 a1 s0 s1 hPa hJa
      go_wp2_with fail
      refine (toIntS10 la nl lc L _ hl' (hL.mono (Nat.le_refl _) B9 (Nat.le_refl _))).mono ?_
      rintro e w11 ⟨la3, rfl, hL11, hb11⟩
      have B11 := B9.trans (hb11.mono B9.size)
      have hL12 := hL9.mono (Nat.le_refl _) hb11 (Nat.le_refl _)
      clear B9 hb11 hL9
      go_wp2_with fail
      refine (eqIntS13 la2 la3 nl nl nl L _ hl' hL12 (hL11.keep (Nat.zero_le _) (Nat.le_refl _) fun _ _ _ => rfl)).mono ?_
      rintro e w12 ⟨rfl, hb12⟩
      have B12 := B11.trans (hb12.mono B11.size)
      go_wp2_with fail
      go_ret
      exact ⟨rfl, B12⟩

end Go.Proofs.Ytoennemahlakeaa
