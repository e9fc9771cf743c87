import Derived.Test.YtjhmaofjmalglaaGreatZaa
import Derived.Test.YtjhmaofjmalglaaGreatZaz
import Derived.Test.YtjhmaofjmalglaaGreatZag
namespace Go.Proofs.YtjhmaofjmalglaaGreat
open Go.RowKit
set_option maxHeartbeats 400000 in
theorem szPieceS16 (a : Option Addr) (n cap : Nat) (P : Nat → Pc) (left : Int) (w : World) (hn : n ≤ maxLen) (h0 : 0 ≤ left) (h1 : left ≤ 1048576)
  (hP : PsAt 0 w a n P) (hs : ∀ i, i < n → (P i).nm.size ≤ maxLen) :
  Calls Tryz.prog 30 #[.slice a n cap, .int .i64 left] w fun e w' =>
   ∃ r : Int, e = .returned (.int .i64 r) ∧ r ≤ left ∧ (0 ≤ r → (n : Int) ≤ left) ∧ Below w.heap.size w w' := by
 unfold maxLen at hn
 by_cases h : left < (n : Int)
 ·
  go_enter Tryz.func30, Tryz.ntmps30
  go_wp2
  go_ret
  exact ⟨-1, rfl, by omega, by omega, Below.refl _ _⟩
 ·
  go_enter Tryz.func30, Tryz.ntmps30
  go_wp2_with fail
  go_loopw [1, 5] (fun l i wr => ∃ (k : Nat) (lv : Int), k ≤ n ∧ i = .int .i64 k ∧ l = .int .i64 lv ∧ 0 ≤ lv ∧ lv ≤ left ∧ Below w.heap.size w wr)
   (fun _ i _ => n - (intOf i).toNat)
  case atStart => exact ⟨0, left - n, Nat.zero_le _, rfl, rfl, by omega, by omega, Below.refl _ _⟩
  case round =>
   obtain ⟨k, lv, hk, rfl, rfl, hl0, hl1, hbel⟩ := hrel
   by_cases hlt : k < n
   ·
    obtain ⟨b, off, rfl, _, hb, hc⟩ := (hP.mono (Nat.le_refl _) hbel (Nat.le_refl _)) (by omega)
    obtain ⟨c0, c1, c2, c3⟩ := hc k hlt
    have hsz := hs k hlt
    clear hc
    go_wp2_with fail
    refine (szPiece37 (P k).nm _ _ _ lv _ hsz hl0 (by omega)).mono ?_
    rintro e w1 ⟨rfl, hb1⟩
    have hb2 : Below w.heap.size w w1 := hbel.trans (hb1.mono hbel.size)
    by_cases hneg : szL lv (P k).nm.size < 0
    ·
     go_wp2
     go_ret
     exact ⟨-1, rfl, by omega, by omega, hb2⟩
    ·
     have hle : szL lv (P k).nm.size ≤ lv := by unfold szL; split <;> omega
     generalize szL lv (P k).nm.size = l2 at *
     go_wp2
     go_roundw
     case rel => exact ⟨k + 1, l2, by omega, by go_num, rfl, by omega, by omega, hb2⟩
     case measure => simp [intOf]; omega
   ·
    go_wp2
    go_ret
    exact ⟨lv, rfl, by omega, by omega, hbel⟩
set_option maxHeartbeats 400000 in
theorem szJoint38 (kd : Int) (nm : ByteArray) (ea : Option Addr) (ne ec : Nat) (left : Int) (w : World) (hs : nm.size ≤ maxLen) (hn : ne ≤ maxLen) (h0 : 0 ≤ left) (h1 : left ≤ 1048576) :
  Calls Tryz.prog 75 #[.agg #[.int .i64 kd, .string nm, .slice ea ne ec], .int .i64 left] w fun e w' =>
   ∃ r : Int, e = .returned (.int .i64 r) ∧ r ≤ left ∧ (0 ≤ r → (ne : Int) ≤ left) ∧ Below w.heap.size w w' := by
 unfold maxLen at hs
 by_cases h : left < (nm.size : Int)
 ·
  go_enter Tryz.func75, Tryz.ntmps75
  go_wp2
  go_ret
  exact ⟨-1, rfl, by omega, by omega, bel1 _ _⟩
 ·
  go_enter Tryz.func75, Tryz.ntmps75
  go_wp2_with fail
  refine (szEndS48 ea ne ec (left - nm.size) _ hn (by omega) (by omega)).mono ?_
  rintro e w1 ⟨rfl, rfl⟩
  by_cases hneg : szL (left - nm.size) ne < 0
  ·
   go_wp2
   go_ret
   exact ⟨-1, rfl, by omega, by omega, bel1 _ _⟩
  ·
   have hle : szL (left - nm.size) ne ≤ left - nm.size ∧ (ne : Int) ≤ left := by unfold szL at hneg ⊢; split at hneg <;> (first | omega | (rw [if_neg (by assumption)]; omega))
   generalize szL (left - nm.size) ne = l2 at *
   go_wp2
   go_ret
   exact ⟨l2, rfl, by omega, fun _ => hle.2, bel1 _ _⟩
set_option maxHeartbeats 400000 in
theorem szJointS17 (a : Option Addr) (n cap : Nat) (J : Nat → Jt) (left : Int) (w : World) (hn : n ≤ maxLen) (h0 : 0 ≤ left) (h1 : left ≤ 1048576)
  (hJ : JsAt 0 w a n J) (hs : ∀ i, i < n → (J i).nm.size ≤ maxLen ∧ (J i).ne ≤ maxLen) :
  Calls Tryz.prog 31 #[.slice a n cap, .int .i64 left] w fun e w' =>
   ∃ r : Int, e = .returned (.int .i64 r) ∧ r ≤ left ∧ (0 ≤ r → (n : Int) ≤ left ∧ ∀ i, i < n → ((J i).ne : Int) ≤ left) ∧ Below w.heap.size w w' := by
 unfold maxLen at hn
 by_cases h : left < (n : Int)
 ·
  go_enter Tryz.func31, Tryz.ntmps31
  go_wp2
  go_ret
  exact ⟨-1, rfl, by omega, by omega, Below.refl _ _⟩
 ·
  go_enter Tryz.func31, Tryz.ntmps31
  go_wp2_with fail
  go_loopw [1, 5] (fun l i wr => ∃ (k : Nat) (lv : Int), k ≤ n ∧ i = .int .i64 k ∧ l = .int .i64 lv ∧ 0 ≤ lv ∧ lv ≤ left ∧ (∀ i, i < k → ((J i).ne : Int) ≤ left) ∧ Below w.heap.size w wr)
   (fun _ i _ => n - (intOf i).toNat)
  case atStart => exact ⟨0, left - n, Nat.zero_le _, rfl, rfl, by omega, by omega, fun i hi => absurd hi (Nat.not_lt_zero _), Below.refl _ _⟩
  case round =>
   obtain ⟨k, lv, hk, rfl, rfl, hl0, hl1, hall, hbel⟩ := hrel
   have Hall : Hid (∀ i, i < k → ((J i).ne : Int) ≤ left) := hall
   clear hall
   by_cases hlt : k < n
   ·
    obtain ⟨b, off, rfl, _, hb, hc⟩ := (hJ.mono (Nat.le_refl _) hbel (Nat.le_refl _)) (by omega)
    obtain ⟨ea, ec, c0, c1, c2, _⟩ := hc k hlt
    obtain ⟨hsz, hnz⟩ := hs k hlt
    clear hc
    go_wp2_with fail
    refine (szJoint38 (J k).kd (J k).nm ea (J k).ne ec lv _ hsz hnz hl0 (by omega)).mono ?_
    rintro e w1 ⟨r, rfl, hr1, hr2, hb1⟩
    have hb2 : Below w.heap.size w w1 := hbel.trans (hb1.mono hbel.size)
    by_cases hneg : r < 0
    ·
     go_wp2
     go_ret
     exact ⟨-1, rfl, by omega, by omega, hb2⟩
    ·
     have hr3 := hr2 (by omega)
     have Hr : Hid (∀ i, i < k + 1 → ((J i).ne : Int) ≤ left) := by
      intro i hi
      by_cases e : i = k
      ·
       subst e; omega
      ·
       exact Hall.out i (by omega)
     clear hr2 Hall
     go_wp2
     go_roundw
     case rel => exact ⟨k + 1, r, by omega, by go_num, rfl, by omega, by omega, Hr.out, hb2⟩
     case measure => simp [intOf]; omega
   ·
    obtain rfl : k = n := by omega
    go_wp2
    go_ret
    exact ⟨lv, rfl, by omega, fun _ => ⟨by omega, Hall.out⟩, hbel⟩
set_option maxHeartbeats 400000 in
theorem szNet5 (pa : Option Addr) (n pc : Nat) (P : Nat → Pc) (ja : Option Addr) (m jc : Nat) (J : Nat → Jt) (left : Int) (w : World) (hn : n ≤ maxLen) (hm : m ≤ maxLen) (h0 : 0 ≤ left) (h1 : left ≤ 1048576)
  (hP : PsAt 0 w pa n P) (hJ : JsAt 0 w ja m J) (hps : ∀ i, i < n → (P i).nm.size ≤ maxLen) (hjs : ∀ i, i < m → (J i).nm.size ≤ maxLen ∧ (J i).ne ≤ maxLen) :
  Calls Tryz.prog 6 #[.agg #[.slice pa n pc, .slice ja m jc], .int .i64 left] w fun e w' =>
   ∃ r : Int, e = .returned (.int .i64 r) ∧ r ≤ left ∧ (0 ≤ r → (n : Int) ≤ left ∧ (m : Int) ≤ left ∧ ∀ i, i < m → ((J i).ne : Int) ≤ left) ∧ Below w.heap.size w w' := by
 have Hjs : Hid (∀ i, i < m → (J i).nm.size ≤ maxLen ∧ (J i).ne ≤ maxLen) := hjs
 have Hps : Hid (∀ i, i < n → (P i).nm.size ≤ maxLen) := hps
 clear hjs hps
 go_enter Tryz.func6, Tryz.ntmps6
 go_wp2_with fail
 refine (szPieceS16 pa n pc P left _ hn h0 h1 (hP.mono (Nat.le_refl _) (bel1 w _) (Nat.le_refl _)) Hps.out).mono ?_
 rintro e w1 ⟨r, rfl, hr1, hr2, hb1⟩
 have hB : Below w.heap.size w w1 := (bel1 w _).trans (hb1.mono (by simp))
 obtain ⟨hc, hf⟩ := bcell hb1
 by_cases hneg : r < 0
 ·
  clear hr2
  go_wp2
  go_ret
  exact ⟨-1, rfl, by omega, by omega, hB⟩
 ·
  have hr3 := hr2 (by omega)
  clear hr2
  go_wp2_with fail
  refine (szJointS17 ja m jc J r _ hm (by omega) (by omega) (hJ.mono (Nat.le_refl _) hB (Nat.le_refl _)) Hjs.out).mono ?_
  rintro e w2 ⟨r2, rfl, hr4, hr5, hb2⟩
  have hB2 : Below w.heap.size w w2 := hB.trans (hb2.mono hB.size)
  have Hr5 : Hid (0 ≤ r2 → (m : Int) ≤ r ∧ ∀ i, i < m → ((J i).ne : Int) ≤ r) := hr5
  clear hr5 hc hf
  by_cases hneg2 : r2 < 0
  ·
   go_wp2
   go_ret
   exact ⟨-1, rfl, by omega, by omega, hB2⟩
  ·
   go_wp2
   go_ret
   refine ⟨r2, rfl, by omega, fun h => ⟨by omega, ?_, fun i hi => ?_⟩, hB2⟩
   ·
    have := (Hr5.out h).1; omega
   ·
    have := (Hr5.out h).2 i hi; omega
end Go.Proofs.YtjhmaofjmalglaaGreat
namespace Go.Proofs.YtjhmaofjmalglaaGreat
open Go.RowKit Go.Lib
def NetR (w : World) (v : Nv) (e : Ending) (w' : World) : Prop := ∃ pa' ja', e = .returned (.agg #[.slice pa' v.n v.n, .slice ja' v.m v.m]) ∧ PsAt 0 w' pa' v.n v.P ∧ JsAt 0 w' ja' v.m v.J ∧ Below w.heap.size w w'
theorem toNetR {v : Nv} (pa : Option Addr) (pc : Nat) (ja : Option Addr) (jc : Nat) (w : World) (hn : v.n ≤ 1048576) (hm : v.m ≤ 1048576) (hP : PsAt 0 w pa v.n v.P) (hJ : JsAt 0 w ja v.m v.J) (hne : ∀ i, i < v.m → (v.J i).ne ≤ 1048576) :
  Calls Tryz.prog 8 #[.agg #[.slice pa v.n pc, .slice ja v.m jc]] w fun e w' => NetR w v e w' :=
 (toNet7 pa v.n pc v.P ja v.m jc v.J w hn hm hP hJ hne).mono fun _ _ ⟨_, _, he, h4, h5, h6⟩ => ⟨_, _, he, (h4.keep (Nat.zero_le _) nr fun _ _ _ => rfl), (h5.keep (Nat.zero_le _) nr fun _ _ _ => rfl), h6⟩
end Go.Proofs.YtjhmaofjmalglaaGreat
