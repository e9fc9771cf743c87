import Derived.Test.YtflomaagenjfpaaQa
namespace Go.Proofs.Ytflomaagenjfpaa
open Go.RowKit

theorem lampF_cast (T : Nat → Bool) (m : Int) : lampF T m = lampN T (m + 1).toNat := rfl
set_option maxHeartbeats 1000000 in
theorem lamp33 (a : Option Addr) (cap : Nat) (T : Nat → Bool) (m : Int) (w : World) (h0 : 0 ≤ m) (h3 : m ≤ 3) (hT : VsAt 1 0 w a 4 (boolF T)) :
    Calls Try.prog 33 #[.slice a ((4 : Nat)) cap, .int .i64 m] w fun e w' => e = .returned (.int .i64 (lampF T m)) ∧ w' = w := by
  obtain ⟨b, off, rfl, _, hb, hc⟩ := hT (by omega)
  have HC : Hid (∀ k, k < 4 → w.cell? ⟨b, off + k, none⟩ = some (.bool (T k))) := fun k hk => by have := hc k hk 0 (by omega); rwa [Nat.mul_one] at this
  clear hc hT
  go_enter Try.func33, Try.ntmps33
  go_wp2_with fail
  go_loop [5] (fun i => ∃ k : Nat, k ≤ 4 ∧ i = .int .i64 ((k : Int) - 1) ∧ Hid (lampF T m = lampN T k)) (fun i => (intOf i + 1).toNat)
  case atStart => exact ⟨(m + 1).toNat, by omega, by congr 1; omega, rfl⟩
  case round =>
    obtain ⟨k, hk, rfl, hl⟩ := hrel
    cases k with
    | zero =>
      go_wp2_with fail
      go_ret
      exact ⟨by rw [hl.out]; rfl, rfl⟩
    | succ k =>
      have e : ((k + 1 : Nat) : Int) - 1 = (k : Int) := by omega
      rw [e]
      have c0 := HC.out k (by omega)
      have hk0 : (0 : Int) ≤ (k : Int) := by omega
      have hk4 : (k : Int) < 4 := by omega
      cases hB : T k with
      | true =>
        rw [hB] at c0
        go_wp2_with fail
        go_ret
        exact ⟨by rw [hl.out, lampN_yes hB]; rfl, rfl⟩
      | false =>
        rw [hB] at c0
        go_wp2_with fail
        go_round
        case rel => exact ⟨k, by omega, by go_num, hl.out.trans (lampN_no hB)⟩
        case measure => simp [intOf]

set_option maxHeartbeats 1000000 in
theorem bright35 (a : Option Addr) (cap : Nat) (T : Nat → Bool) (m : Int) (w : World) (h0 : 0 ≤ m) (h3 : m ≤ 3) (hT : VsAt 1 0 w a 4 (boolF T)) :
    Calls Try.prog 35 #[.slice a ((4 : Nat)) cap, .int .i64 m] w fun e w' => e = .returned (.int .i64 (lampF T m)) ∧ w' = w := by
  obtain ⟨b, off, rfl, _, hb, hc⟩ := hT (by omega)
  have HC : Hid (∀ k, k < 4 → w.cell? ⟨b, off + k, none⟩ = some (.bool (T k))) := fun k hk => by have := hc k hk 0 (by omega); rwa [Nat.mul_one] at this
  clear hc hT
  go_enter Try.func35, Try.ntmps35
  go_wp2_with fail
  go_loop [1] (fun i => ∃ k : Nat, k ≤ 4 ∧ i = .int .i64 ((k : Int) - 1) ∧ Hid (lampF T m = lampN T k)) (fun i => (intOf i + 1).toNat)
  case atStart => exact ⟨(m + 1).toNat, by omega, by congr 1; omega, rfl⟩
  case round =>
    obtain ⟨k, hk, rfl, hl⟩ := hrel
    cases k with
    | zero =>
      go_wp2_with fail
      go_ret
      exact ⟨by rw [hl.out]; rfl, rfl⟩
    | succ k =>
      have e : ((k + 1 : Nat) : Int) - 1 = (k : Int) := by omega
      rw [e]
      have c0 := HC.out k (by omega)
      have hk0 : (0 : Int) ≤ (k : Int) := by omega
      have hk4 : (k : Int) < 4 := by omega
      cases hB : T k with
      | true =>
        rw [hB] at c0
        go_wp2_with fail
        go_ret
        exact ⟨by rw [hl.out, lampN_yes hB]; rfl, rfl⟩
      | false =>
        rw [hB] at c0
        go_wp2_with fail
        go_round
        case rel => exact ⟨k, by omega, by go_num, hl.out.trans (lampN_no hB)⟩
        case measure => simp [intOf]

set_option maxRecDepth 100000 in
set_option maxHeartbeats 2000000 in
theorem want34 (r : Rw) (xa fa oa ka : Option Addr) (xc fc oc kc : Nat) (sa : Option Addr) (sc : Nat) (S : Nat → Int) (i : Nat) (w : World) (hr : Good r) (hS : Low r.nn S) (hi : i < r.nn) (h : RwIn 0 w r xa fa oa ka) (hs : VsAt 1 0 w sa r.nn (oneF S)) :
    Calls Try.prog 34 #[.agg #[.slice xa r.nn xc, .slice fa r.nf fc, .slice oa r.no oc, .slice ka r.nk kc], .slice sa r.nn sc, .int .i64 i] w fun e w' => e = .returned (.int .i64 (wantF r S i)) ∧ Below w.heap.size w w' := by
  obtain ⟨g1, g2, g3, g4, g5, g6⟩ := hr
  have hx := g2 i hi
  have B0 := bel1 w (.cells #[.slice xa r.nn xc, .slice fa r.nf fc, .slice oa r.no oc, .slice ka r.nk kc] 29)
  have h' := h.mono (Nat.le_refl _) B0 (Nat.le_refl _)
  have hs' := hs.mono (Nat.le_refl _) B0 (Nat.le_refl _)
  obtain ⟨b, off, rfl, _, hb, hc⟩ := h'.x (by omega)
  have c0 : (w.alloc (.cells #[.slice (some ⟨b, off, none⟩) r.nn xc, .slice fa r.nf fc, .slice oa r.no oc, .slice ka r.nk kc] 29)).cell? ⟨b, off + i, none⟩ = some (.int .i64 (r.X i)) := by have := hc i hi 0 (by omega); rwa [Nat.mul_one] at this
  obtain ⟨b2, off2, rfl, _, hb2, hc2⟩ := h'.o (by omega)
  have c1 : (w.alloc (.cells #[.slice (some ⟨b, off, none⟩) r.nn xc, .slice fa r.nf fc, .slice (some ⟨b2, off2, none⟩) r.no oc, .slice ka r.nk kc] 29)).cell? ⟨b2, off2 + i, none⟩ = some (.bool (r.O i)) := by have := hc2 i (by omega) 0 (by omega); rwa [Nat.mul_one] at this
  obtain ⟨b3, off3, rfl, _, hb3, hc3⟩ := hs' (by omega)
  have HC3 : Hid (∀ k, k < r.nn → (w.alloc (.cells #[.slice (some ⟨b, off, none⟩) r.nn xc, .slice fa r.nf fc, .slice (some ⟨b2, off2, none⟩) r.no oc, .slice ka r.nk kc] 29)).cell? ⟨b3, off3 + k, none⟩ = some (.int .i64 (S k))) := fun k hk => by have := hc3 k hk 0 (by omega); rwa [Nat.mul_one] at this
  have HB : Hid (Below w.heap.size w (w.alloc (.cells #[.slice (some ⟨b, off, none⟩) r.nn xc, .slice fa r.nf fc, .slice (some ⟨b2, off2, none⟩) r.no oc, .slice ka r.nk kc] 29))) := B0
  have hi0 : (0 : Int) ≤ (i : Int) := by omega
  have hin : (i : Int) < (r.nn : Int) := by omega
  have hio : (i : Int) < (r.no : Int) := by omega
  clear hc hc2 hc3 h h' hs hs' B0 g2 g3 g4 g5 g6
  go_enter Try.func34, Try.ntmps34
  cases hO : r.O i with
  | false =>
    rw [hO] at c1
    go_wp2_with fail
    go_ret
    exact ⟨by simp [wantF, hO], HB.out⟩
  | true =>
    rw [hO] at c1
    by_cases hX : r.X i < 0
    · go_wp2_with fail
      go_ret
      exact ⟨by simp [wantF, hO, hX], HB.out⟩
    · obtain ⟨k, hk⟩ : ∃ k : Nat, r.X i = (k : Int) := ⟨(r.X i).toNat, by omega⟩
      have hkn : k < r.nn := by omega
      have c3 := HC3.out k hkn
      have hl := hS k hkn
      have hwf : wantF r S i = if 3 < S k + 1 then 3 else S k + 1 := by
        unfold wantF
        rw [if_pos hO, hk, if_neg (by omega), Int.toNat_natCast]
      rw [hwf]
      rw [hk] at c0
      have hk0 : (0 : Int) ≤ (k : Int) := by omega
      have hkn' : (k : Int) < (r.nn : Int) := by omega
      clear hX hx hk hwf
      by_cases h4 : 3 < S k + 1
      · rw [if_pos h4]
        go_wp2_with fail
        go_ret
        exact ⟨rfl, HB.out⟩
      · rw [if_neg h4]
        go_wp2_with fail
        go_ret
        exact ⟨rfl, HB.out⟩

end Go.Proofs.Ytflomaagenjfpaa
