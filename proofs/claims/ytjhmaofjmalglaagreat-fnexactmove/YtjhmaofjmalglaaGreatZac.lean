import Derived.Test.YtjhmaofjmalglaaGreatZaa
namespace Go.Proofs.YtjhmaofjmalglaaGreat
open Go.RowKit
def okB (c : Int) : Bool := decide ((97 ≤ c ∧ c ≤ 122) ∨ (48 ≤ c ∧ c ≤ 57) ∨ c = 95)
def OkI (c : Int) : Prop := okB c = true
theorem okI_iff (c : Int) : OkI c ↔ ((97 ≤ c ∧ c ≤ 122) ∨ (48 ≤ c ∧ c ≤ 57) ∨ c = 95) := by simp [OkI, okB]
def nameB (s : ByteArray) : Bool := decide (1 ≤ s.size) && decide (s.size ≤ 20) && s.data.toList.all (fun c => okB (c.toNat : Int))
theorem all_of (s : ByteArray) (h : ∀ i, (hi : i < s.size) → OkI (s[i].toNat : Int)) : s.data.toList.all (fun c => okB (c.toNat : Int)) = true := by
 rw [List.all_eq_true]
 intro c hc
 obtain ⟨i, hi, rfl⟩ := List.getElem_of_mem hc
 have := h i (by simpa using hi)
 simp only [Array.getElem_toList]
 exact this
theorem not_all (s : ByteArray) (i : Nat) (hi : i < s.size) (h : ¬ OkI (s[i].toNat : Int)) : s.data.toList.all (fun c => okB (c.toNat : Int)) = false := by
 rw [List.all_eq_false]
 refine ⟨s[i], ?_, h⟩
 show s.data[i] ∈ s.data.toList
 simp
theorem nameB_bad (s : ByteArray) (i : Nat) (hi : i < s.size) (h : ¬ OkI (s[i].toNat : Int)) : nameB s = false := by
 simp [nameB, not_all s i hi h]
theorem nameB_end (s : ByteArray) (h : ∀ i, (hi : i < s.size) → OkI (s[i].toNat : Int)) : nameB s = (decide (1 ≤ s.size) && decide (s.size ≤ 20)) := by
 simp [nameB, all_of s h]
theorem six (c : Int) : (97 ≤ c ∧ c ≤ 122) ∨ (97 ≤ c ∧ decide (c ≤ 122) = false ∧ 48 ≤ c ∧ decide (c ≤ 57) = false ∧ (c == 95) = false) ∨ (c < 97 ∧ 48 ≤ c ∧ c ≤ 57) ∨ (c < 97 ∧ 48 ≤ c ∧ decide (c ≤ 57) = false ∧ (c == 95) = true) ∨ (c < 97 ∧ 48 ≤ c ∧ decide (c ≤ 57) = false ∧ (c == 95) = false) ∨ (c < 97 ∧ c < 48 ∧ (c == 95) = false) := by
 simp only [beq_iff_eq, beq_eq_false_iff_ne, decide_eq_false_iff_not]
 omega
set_option maxHeartbeats 1000000 in
theorem name18 (s : ByteArray) (w : World) (hs : s.size ≤ maxLen) :
  Calls Tryz.prog 138 #[.string s] w fun e w' => e = .returned (.bool (nameB s)) ∧ w' = w := by
 unfold maxLen at hs
 go_enter Tryz.func138, Tryz.ntmps138
 go_wp2_with fail
 go_loop [3] (fun i => ∃ k : Nat, k ≤ s.size ∧ i = .int .i64 k ∧ Hid (∀ j, j < k → (hj : j < s.size) → OkI (s[j].toNat : Int))) (fun i => s.size - (intOf i).toNat)
 case atStart => exact ⟨0, Nat.zero_le _, rfl, fun j hj => absurd hj (Nat.not_lt_zero _)⟩
 case round =>
  obtain ⟨k, hk, rfl, hall⟩ := hrel
  by_cases hlt : k < s.size
  ·
   have HS : Hid (OkI (s[k].toNat : Int) → ∀ j, j < k + 1 → (hj : j < s.size) → OkI (s[j].toNat : Int)) := by
    intro hok j hj hj'
    by_cases e : j = k
    ·
     subst e; exact hok
    ·
     exact hall.out j (by omega) hj'
   have HB : Hid (¬ OkI (s[k].toNat : Int) → nameB s = false) := nameB_bad s k hlt
   clear hall
   rcases six (s[k].toNat : Int) with ⟨h1, h2⟩ | ⟨h1, h2, h3, h4, h5⟩ | ⟨h1, h2, h3⟩ | ⟨h1, h2, h3, h4⟩ | ⟨h1, h2, h3, h4⟩ | ⟨h1, h2, h3⟩
   ·
    go_wp2
    go_round
    case rel => exact ⟨k + 1, by omega, by go_num, HS.out (by rw [okI_iff]; omega)⟩
    case measure => simp [intOf]; omega
   ·
    go_wp2
    go_ret
    exact ⟨(by rw [HB.out (by rw [okI_iff]; simp only [beq_eq_false_iff_ne, decide_eq_false_iff_not] at h2 h4 h5; omega)] <;> rfl), rfl⟩
   ·
    go_wp2
    go_round
    case rel => exact ⟨k + 1, by omega, by go_num, HS.out (by rw [okI_iff]; omega)⟩
    case measure => simp [intOf]; omega
   ·
    go_wp2
    go_round
    case rel => exact ⟨k + 1, by omega, by go_num, HS.out (by rw [okI_iff]; simp only [beq_iff_eq] at h4; omega)⟩
    case measure => simp [intOf]; omega
   ·
    go_wp2
    go_ret
    exact ⟨(by rw [HB.out (by rw [okI_iff]; simp only [beq_eq_false_iff_ne, decide_eq_false_iff_not] at h3 h4; omega)] <;> rfl), rfl⟩
   ·
    go_wp2
    go_ret
    exact ⟨(by rw [HB.out (by rw [okI_iff]; simp only [beq_eq_false_iff_ne] at h3; omega)] <;> rfl), rfl⟩
  ·
   obtain rfl : k = s.size := by omega
   have Hb : Hid (nameB s = (decide (1 ≤ s.size) && decide (s.size ≤ 20))) := nameB_end s (fun i hi => hall.out i hi hi)
   clear hall
   by_cases h1 : 1 ≤ s.size
   ·
    go_wp2
    go_ret
    exact ⟨by rw [Hb.out]; simp [h1]; omega, rfl⟩
   ·
    go_wp2
    go_ret
    exact ⟨by rw [Hb.out]; simp [h1], rfl⟩
set_option maxHeartbeats 1000000 in
theorem nameByte50 (c : Int) (w : World) :
  Calls Tryz.prog 149 #[.int .u8 c] w fun e w' => e = .returned (.bool (okB c)) ∧ w' = w := by
 have HD : Hid (OkI c → okB c = true) := fun h => h
 have HE : Hid (¬ OkI c → okB c = false) := fun h => by simpa [OkI] using h
 rcases six c with ⟨h1, h2⟩ | ⟨h1, h2, h3, h4, h5⟩ | ⟨h1, h2, h3⟩ | ⟨h1, h2, h3, h4⟩ | ⟨h1, h2, h3, h4⟩ | ⟨h1, h2, h3⟩
 ·
  go_enter Tryz.func149, Tryz.ntmps149
  go_wp2
  go_ret
  exact ⟨(by rw [HD.out (by rw [okI_iff]; omega)] <;> rfl), rfl⟩
 ·
  go_enter Tryz.func149, Tryz.ntmps149
  go_wp2
  go_ret
  exact ⟨(by rw [HE.out (by rw [okI_iff]; simp only [beq_eq_false_iff_ne, decide_eq_false_iff_not] at h2 h4 h5; omega)] <;> rfl), rfl⟩
 ·
  go_enter Tryz.func149, Tryz.ntmps149
  go_wp2
  go_ret
  exact ⟨(by rw [HD.out (by rw [okI_iff]; omega)] <;> rfl), rfl⟩
 ·
  go_enter Tryz.func149, Tryz.ntmps149
  go_wp2
  go_ret
  exact ⟨(by rw [HD.out (by rw [okI_iff]; simp only [beq_iff_eq] at h4; omega)] <;> rfl), rfl⟩
 ·
  go_enter Tryz.func149, Tryz.ntmps149
  go_wp2
  go_ret
  exact ⟨(by rw [HE.out (by rw [okI_iff]; simp only [beq_eq_false_iff_ne, decide_eq_false_iff_not] at h3 h4; omega)] <;> rfl), rfl⟩
 ·
  go_enter Tryz.func149, Tryz.ntmps149
  go_wp2
  go_ret
  exact ⟨(by rw [HE.out (by rw [okI_iff]; simp only [beq_eq_false_iff_ne] at h3; omega)] <;> rfl), rfl⟩
set_option maxHeartbeats 1000000 in
theorem nameOk42 (s : ByteArray) (w : World) (hs : s.size ≤ maxLen) :
  Calls Tryz.prog 143 #[.string s] w fun e w' => e = .returned (.bool (nameB s)) ∧ w' = w := by
 unfold maxLen at hs
 by_cases hsz : 1 ≤ s.size ∧ s.size ≤ 20
 ·
  obtain ⟨h1, h2⟩ := hsz
  go_enter Tryz.func143, Tryz.ntmps143
  go_wp2_with fail
  go_loop [3] (fun i => ∃ k : Nat, k ≤ s.size ∧ i = .int .i64 k ∧ Hid (∀ j, j < k → (hj : j < s.size) → OkI (s[j].toNat : Int))) (fun i => s.size - (intOf i).toNat)
  case atStart => exact ⟨0, Nat.zero_le _, rfl, fun j hj => absurd hj (Nat.not_lt_zero _)⟩
  case round =>
   obtain ⟨k, hk, rfl, hall⟩ := hrel
   by_cases hlt : k < s.size
   ·
    by_cases hok : OkI (s[k].toNat : Int)
    ·
     have HS : Hid (∀ j, j < k + 1 → (hj : j < s.size) → OkI (s[j].toNat : Int)) := by
      intro j hj hj'
      by_cases e : j = k
      ·
       subst e; exact hok
      ·
       exact hall.out j (by omega) hj'
     have hd : okB (s[k].toNat : Int) = true := hok
     clear hall hok
     go_wp2_with (go_at_call 149; refine (nameByte50 _ _).mono ?_; rintro e w' ⟨rfl, rfl⟩)
     go_round
     case rel => exact ⟨k + 1, by omega, by go_num, HS⟩
     case measure => simp [intOf]; omega
    ·
     have Hb : Hid (nameB s = false) := nameB_bad s k hlt hok
     have hd : okB (s[k].toNat : Int) = false := by simpa [OkI] using hok
     clear hall hok
     go_wp2_with (go_at_call 149; refine (nameByte50 _ _).mono ?_; rintro e w' ⟨rfl, rfl⟩)
     go_ret
     exact ⟨(by rw [Hb.out] <;> rfl), rfl⟩
   ·
    obtain rfl : k = s.size := by omega
    have Hb : Hid (nameB s = (decide (1 ≤ s.size) && decide (s.size ≤ 20))) := nameB_end s (fun i hi => hall.out i hi hi)
    clear hall
    go_wp2
    go_ret
    exact ⟨by rw [Hb.out]; simp [h1, h2], rfl⟩
 ·
  have Hb : Hid (nameB s = false) := by
   show nameB s = false
   simp only [nameB]
   by_cases h1 : 1 ≤ s.size
   ·
    have : ¬ s.size ≤ 20 := by omega
    simp [this]
   ·
    simp [h1]
  by_cases h1 : 1 ≤ s.size
  ·
   have h2 : 20 < s.size := by omega
   clear hsz
   go_enter Tryz.func143, Tryz.ntmps143
   go_wp2_with fail
   go_ret
   exact ⟨(by rw [Hb.out] <;> rfl), rfl⟩
  ·
   clear hsz
   go_enter Tryz.func143, Tryz.ntmps143
   go_wp2_with fail
   go_ret
   exact ⟨(by rw [Hb.out] <;> rfl), rfl⟩
end Go.Proofs.YtjhmaofjmalglaaGreat
