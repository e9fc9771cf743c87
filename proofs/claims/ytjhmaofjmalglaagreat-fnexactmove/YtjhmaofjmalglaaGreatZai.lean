import Derived.Test.YtjhmaofjmalglaaGreatZah
import Derived.Test.YtjhmaofjmalglaaGreatZag
namespace Go.Proofs.YtjhmaofjmalglaaGreat
open Go.RowKit
set_option maxHeartbeats 2000000 in
theorem pieceOk24 (a : Option Addr) (n cap : Nat) (P : Nat → Pc) (p : Nat) (w : World) (hn : n ≤ 1048576) (hcap : n ≤ cap) (hcm : cap ≤ maxLen) (hp : p < n) (hP : PsAt 0 w a n P) (hsk : (P p).nm.size ≤ maxLen) :
  Calls Tryz.prog 121 #[.slice a n cap, .int .i64 p] w fun e w' => e = .returned (.bool (!pieceBad P p)) ∧ Below w.heap.size w w' := by
 unfold maxLen at hcm
 obtain ⟨b, off, rfl, _, hb, hc0⟩ := hP (by omega)
 obtain ⟨c0, c1, c2, c3⟩ := hc0 p hp
 have Hc : Hid (∀ i, i < n → w.cell? ⟨b, off + i * 4, none⟩ = some (.string (P i).nm) ∧ w.cell? ⟨b, off + i * 4 + 1, none⟩ = some (.int .i64 (P i).ln) ∧
  w.cell? ⟨b, off + i * 4 + 2, none⟩ = some (.int .i64 (P i).sp) ∧ w.cell? ⟨b, off + i * 4 + 3, none⟩ = some (.int .i64 (P i).br)) := hc0
 clear hc0 hP
 cases n1 : nameB (P p).nm
 ·
  have Hv : Hid (pieceBad P p = true) := by
   show pieceBad P p = true
   simp [pieceBad, n1]
  go_enter Tryz.func121, Tryz.ntmps121
  go_wp2_with (first | (go_at_call 143; refine (nameOk42 _ _ hsk).mono ?_; rintro e w1 ⟨rfl, rfl⟩) | (go_at_call 43; refine (within43 _ _ _ _).mono ?_; rintro e w1 ⟨rfl, rfl⟩))
  go_ret
  exact ⟨by rw [Hv.out] <;> rfl, bel1 _ _⟩
 cases i1 : inB (P p).ln 1 10000000
 ·
  have Hv : Hid (pieceBad P p = true) := by
   show pieceBad P p = true
   simp [pieceBad, n1, i1]
  go_enter Tryz.func121, Tryz.ntmps121
  go_wp2_with (first | (go_at_call 143; refine (nameOk42 _ _ hsk).mono ?_; rintro e w1 ⟨rfl, rfl⟩) | (go_at_call 43; refine (within43 _ _ _ _).mono ?_; rintro e w1 ⟨rfl, rfl⟩))
  go_ret
  exact ⟨by rw [Hv.out] <;> rfl, bel1 _ _⟩
 cases i2 : inB (P p).sp 1 10000
 ·
  have Hv : Hid (pieceBad P p = true) := by
   show pieceBad P p = true
   simp [pieceBad, n1, i1, i2]
  go_enter Tryz.func121, Tryz.ntmps121
  go_wp2_with (first | (go_at_call 143; refine (nameOk42 _ _ hsk).mono ?_; rintro e w1 ⟨rfl, rfl⟩) | (go_at_call 43; refine (within43 _ _ _ _).mono ?_; rintro e w1 ⟨rfl, rfl⟩))
  go_ret
  exact ⟨by rw [Hv.out] <;> rfl, bel1 _ _⟩
 cases i3 : inB (P p).br 1 1000
 ·
  have Hv : Hid (pieceBad P p = true) := by
   show pieceBad P p = true
   simp [pieceBad, n1, i1, i2, i3]
  go_enter Tryz.func121, Tryz.ntmps121
  go_wp2_with (first | (go_at_call 143; refine (nameOk42 _ _ hsk).mono ?_; rintro e w1 ⟨rfl, rfl⟩) | (go_at_call 43; refine (within43 _ _ _ _).mono ?_; rintro e w1 ⟨rfl, rfl⟩))
  go_ret
  exact ⟨by rw [Hv.out] <;> rfl, bel1 _ _⟩
 have Hd : Hid (pieceBad P p = dupN (fun q => (P q).nm) (P p).nm p) := by
  show pieceBad P p = _
  simp [pieceBad, n1, i1, i2, i3]
 go_enter Tryz.func121, Tryz.ntmps121
 go_wp2_with (first | (go_at_call 143; refine (nameOk42 _ _ hsk).mono ?_; rintro e w1 ⟨rfl, rfl⟩) | (go_at_call 43; refine (within43 _ _ _ _).mono ?_; rintro e w1 ⟨rfl, rfl⟩))
 clear c0 c1 c2 c3 n1 i1 i2 i3
 go_loopw [38] (fun i wr => ∃ q : Nat, q ≤ p ∧ i = .int .i64 q ∧ Hid (∀ j, j < q → ((P j).nm.toList == (P p).nm.toList) = false) ∧
   Below (w.heap.size + 1) (w.alloc (.cells #[.string (P p).nm, .int .i64 (P p).ln, .int .i64 (P p).sp, .int .i64 (P p).br] 82)) wr) (fun i _ => p - (intOf i).toNat)
 case atStart => exact ⟨0, Nat.zero_le _, rfl, fun j hj => absurd hj (Nat.not_lt_zero _), Below.refl _ _⟩
 case round =>
  obtain ⟨q, hq, rfl, hall, hbel⟩ := hrel
  have hB : Below w.heap.size w wr := (bel1 w _).trans (hbel.mono (by omega))
  have p0 : wr.cell? ⟨w.heap.size, 0, none⟩ = some (.string (P p).nm) := by rw [hbel.cell (by show w.heap.size < _; omega), World.cell?_alloc_at _ _ _ _ (by simp)]; rfl
  have zz : w.heap.size < wr.heap.size := by have := hbel.size; simp at this; omega
  by_cases hlq : q < p
  ·
   obtain ⟨d0', d1', d2', d3'⟩ := Hc.out q (by omega)
   have d0 := (hB.cell (p := ⟨b, off + q * 4, none⟩) hb).trans d0'
   have d1 := (hB.cell (p := ⟨b, off + q * 4 + 1, none⟩) hb).trans d1'
   have d2 := (hB.cell (p := ⟨b, off + q * 4 + 2, none⟩) hb).trans d2'
   have d3 := (hB.cell (p := ⟨b, off + q * 4 + 3, none⟩) hb).trans d3'
   clear d0' d1' d2' d3'
   cases h5 : ((P q).nm.toList == (P p).nm.toList)
   ·
    have Hall : Hid (∀ j, j < q + 1 → ((P j).nm.toList == (P p).nm.toList) = false) := snoc_all hall.out h5
    clear hall
    go_wp2_with fail
    go_roundw
    case rel => exact ⟨q + 1, by omega, by go_num, Hall, hbel.alloc (by omega) _⟩
    case measure => simp [intOf]; omega
   ·
    have Hv : Hid (pieceBad P p = true) := by
     show pieceBad P p = true
     rw [Hd.out]
     exact dupN_true hlq h5
    clear hall
    go_wp2_with fail
    go_ret
    exact ⟨by rw [Hv.out] <;> rfl, hB.alloc hB.size _⟩
  ·
   obtain rfl : q = p := by omega
   have Hv : Hid (pieceBad P q = false) := by
    show pieceBad P q = false
    rw [Hd.out]
    exact dupN_false hall.out
   clear hall
   go_wp2_with fail
   go_ret
   exact ⟨by rw [Hv.out] <;> rfl, hB⟩
set_option maxHeartbeats 2000000 in
theorem jointNameOk26 (a : Option Addr) (n cap : Nat) (J : Nat → Jt) (p : Nat) (w : World) (hn : n ≤ 1048576) (hcap : n ≤ cap) (hcm : cap ≤ maxLen) (hp : p < n) (hJ : JsAt 0 w a n J) (hsk : (J p).nm.size ≤ maxLen) (hkd : inB (J p).kd 1 4 = true) :
  Calls Tryz.prog 123 #[.slice a n cap, .int .i64 p] w fun e w' => e = .returned (.bool (!nameBad J p)) ∧ Below w.heap.size w w' := by
 unfold maxLen at hcm
 have hk14 : 1 ≤ (J p).kd ∧ (J p).kd ≤ 4 := by simpa [inB] using hkd
 clear hkd
 obtain ⟨b, off, rfl, _, hb, hc0⟩ := hJ (by omega)
 obtain ⟨ea, ec, c0, c1, c2, _⟩ := hc0 p hp
 have Hc : Hid (∀ i, i < n → ∃ ea ec, w.cell? ⟨b, off + i * 3, none⟩ = some (.int .i64 (J i).kd) ∧ w.cell? ⟨b, off + i * 3 + 1, none⟩ = some (.string (J i).nm) ∧ w.cell? ⟨b, off + i * 3 + 2, none⟩ = some (.slice ea (J i).ne ec)) := fun i hi => by
  obtain ⟨ea, ec, h1, h2, h3, _⟩ := hc0 i hi
  exact ⟨ea, ec, h1, h2, h3⟩
 clear hc0 hJ
 cases h1 : namedB (J p).kd
 ·
  have Hv : Hid (nameBad J p = !(J p).nm.toList.isEmpty) := by
   show nameBad J p = _
   simp only [namedB, decide_eq_false_iff_not] at h1
   rw [nameBad, if_pos (by omega)]
  go_enter Tryz.func123, Tryz.ntmps123
  go_wp2_with (first | (go_at_call 85; refine (kindOf44 _ _).mono ?_; rintro e w1 ⟨rfl, rfl⟩) | (go_at_call 144; refine (hasName45 _ _).mono ?_; rintro e w1 ⟨rfl, rfl⟩))
  go_ret
  exact ⟨by rw [Hv.out]; simp, Below.refl _ _⟩
 ·
  have Hd0 : Hid (nameBad J p = (!(nameB (J p).nm) || dupN (fun k => (J k).nm) (J p).nm p)) := by
   show nameBad J p = _
   simp only [namedB, decide_eq_true_eq] at h1
   rw [nameBad, if_neg (by omega)]
  cases n1 : nameB (J p).nm
  ·
   have Hv : Hid (nameBad J p = true) := by
    show nameBad J p = _
    rw [Hd0.out, n1]; rfl
   go_enter Tryz.func123, Tryz.ntmps123
   go_wp2_with (first | (go_at_call 85; refine (kindOf44 _ _).mono ?_; rintro e w1 ⟨rfl, rfl⟩) | (go_at_call 144; refine (hasName45 _ _).mono ?_; rintro e w1 ⟨rfl, rfl⟩) | (go_at_call 143; refine (nameOk42 _ _ hsk).mono ?_; rintro e w1 ⟨rfl, rfl⟩))
   go_ret
   exact ⟨by rw [Hv.out] <;> rfl, Below.refl _ _⟩
  ·
   have Hd : Hid (nameBad J p = dupN (fun k => (J k).nm) (J p).nm p) := by
    show nameBad J p = _
    rw [Hd0.out, n1]; rfl
   go_enter Tryz.func123, Tryz.ntmps123
   go_wp2_with (first | (go_at_call 85; refine (kindOf44 _ _).mono ?_; rintro e w ⟨rfl, rfl⟩) | (go_at_call 144; refine (hasName45 _ _).mono ?_; rintro e w ⟨rfl, rfl⟩) | (go_at_call 143; refine (nameOk42 _ _ hsk).mono ?_; rintro e w ⟨rfl, rfl⟩))
   clear c0 c1 c2 n1
   go_loopw [30] (fun i wr => ∃ q : Nat, q ≤ p ∧ i = .int .i64 q ∧ Hid (∀ j, j < q → ((J j).nm.toList == (J p).nm.toList) = false) ∧ Below w.heap.size w wr) (fun i _ => p - (intOf i).toNat)
   case atStart => exact ⟨0, Nat.zero_le _, rfl, fun j hj => absurd hj (Nat.not_lt_zero _), Below.refl _ _⟩
   case round =>
    obtain ⟨q, hq, rfl, hall, hB⟩ := hrel
    by_cases hlq : q < p
    ·
     obtain ⟨ea2, ec2, d0', d1', d2'⟩ := Hc.out q (by omega)
     have d0 := (hB.cell (p := ⟨b, off + q * 3, none⟩) hb).trans d0'
     have d1 := (hB.cell (p := ⟨b, off + q * 3 + 1, none⟩) hb).trans d1'
     have d2 := (hB.cell (p := ⟨b, off + q * 3 + 2, none⟩) hb).trans d2'
     clear d0' d1' d2'
     cases h5 : ((J q).nm.toList == (J p).nm.toList)
     ·
      have Hall : Hid (∀ j, j < q + 1 → ((J j).nm.toList == (J p).nm.toList) = false) := snoc_all hall.out h5
      clear hall
      go_wp2_with fail
      go_roundw
      case rel => exact ⟨q + 1, by omega, by go_num, Hall, hB.alloc hB.size _⟩
      case measure => simp [intOf]; omega
     ·
      have Hv : Hid (nameBad J p = true) := by
       show nameBad J p = true
       rw [Hd.out]
       exact dupN_true hlq h5
      clear hall
      go_wp2_with fail
      go_ret
      exact ⟨by rw [Hv.out] <;> rfl, hB.alloc hB.size _⟩
    ·
     obtain rfl : q = p := by omega
     have Hv : Hid (nameBad J q = false) := by
      show nameBad J q = false
      rw [Hd.out]
      exact dupN_false hall.out
     clear hall
     go_wp2_with fail
     go_ret
     exact ⟨by rw [Hv.out] <;> rfl, hB⟩
end Go.Proofs.YtjhmaofjmalglaaGreat
