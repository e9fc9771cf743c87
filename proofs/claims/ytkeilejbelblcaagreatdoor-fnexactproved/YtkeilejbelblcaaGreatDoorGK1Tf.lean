import Derived.Test.YtkeilejbelblcaaGreatDoorH15
import Derived.Test.YtkeilejbelblcaaGreatDoorGMoSm
import Derived.Test.YtkeilejbelblcaaGreatDoorGBoBm
import Derived.Test.YtkeilejbelblcaaGreatDoorGMdSz
namespace Go.Proofs.YtkeilejbelblcaaGreatDoor
open Go.RowKit

theorem iface_oc (t : TypeId) (v : Value) : (Value.iface t v).oneCell' = true := rfl
/-- a state's value -/
def WsV (w : World) (n : Nat) : WS → Value → Prop
  | .idle, v => v = .iface 161 (.agg #[])
  | .set sh, v => v = .iface 163 (.agg #[.bool sh])
  | .clear, v => v = .iface 164 (.agg #[])
  | .taking t, v => v = .iface 166 (.agg #[.int .i64 t])
  | .used g B sh, v => ∃ b cap cur, v = .iface 169 (.agg #[.int .i64 (g : Int), .slice (some ⟨b, 0, none⟩) n cap, .bool sh]) ∧ Box w b 4 cur ∧ VsAt 1 0 w (some ⟨b, 0, none⟩) n (boolF B)
theorem WsV.keep {w w' : World} {n : Nat} {s : WS} {v : Value} (h : WsV w n s v) (hs : w.heap.size ≤ w'.heap.size) (hk : ∀ b, b < w.heap.size → w'.heap[b]? = w.heap[b]?) : WsV w' n s v := by
  cases s with
  | used g B sh =>
    obtain ⟨b, cap, cur, h1, h2, h3⟩ := h
    exact ⟨b, cap, cur, h1, h2.keep (hk b h2.lt), h3.keep (Nat.le_refl _) hs fun x _ hx => hk x hx⟩
  | idle => exact h
  | set sh => exact h
  | clear => exact h
  | taking t => exact h
theorem WsV.mono {w w' : World} {n : Nat} {s : WS} {v : Value} {B : Nat} (h : WsV w n s v) (hb : Below B w w') (hB : w.heap.size ≤ B) : WsV w' n s v :=
  h.keep hb.size fun b hlt => hb.block b (by omega)
theorem WsV.one {w : World} {n : Nat} {s : WS} {v : Value} (h : WsV w n s v) : ∃ t x, v = .iface t x := by
  cases s with
  | used g B sh =>
    obtain ⟨b, cap, cur, h1, _⟩ := h
    exact ⟨_, _, h1⟩
  | idle => exact ⟨_, _, h⟩
  | set sh => exact ⟨_, _, h⟩
  | clear => exact ⟨_, _, h⟩
  | taking t => exact ⟨_, _, h⟩

set_option maxHeartbeats 1000000 in
theorem index136 (a : Option Addr) (n cap : Nat) (B : Nat → Bool) (w : World) (hn : n ≤ 1048576) (h : VsAt 1 0 w a n (boolF B)) :
    Calls Tryz.prog 130 #[.slice a n cap, .bool false] w fun e w' => ∃ r : Int, e = .returned (.int .i64 r) ∧ decide (0 ≤ r) = !allB B n ∧ w' = w := by
  have H : Hid (VsAt 1 0 w a n (boolF B)) := h
  clear h
  go_enter Tryz.func130, Tryz.ntmps130
  go_wp2_with fail
  go_loop [8] (fun i => ∃ k : Nat, k ≤ n ∧ i = .int .i64 k ∧ Hid (∀ j, j < k → B j = true)) (fun i => n - (intOf i).toNat)
  case atStart => exact ⟨0, Nat.zero_le _, rfl, fun i hi => absurd hi (Nat.not_lt_zero _)⟩
  case round =>
    obtain ⟨k, hk, rfl, HK⟩ := hrel
    by_cases hlt : k < n
    · obtain ⟨b, off, rfl, _, hb, hc⟩ := H.out (by omega)
      have c0 : w.cell? ⟨b, off + k, none⟩ = some (.bool (B k)) := by have := hc k hlt 0 (by omega); rwa [Nat.mul_one] at this
      have hk0 : (0 : Int) ≤ (k : Int) := by omega
      have hkn : (k : Int) < (n : Int) := by omega
      clear hc
      cases hB : B k with
      | false =>
        have HF : Hid (allB B n = false) := allB_no hlt hB
        rw [hB] at c0
        go_wp2_with fail
        go_ret
        exact ⟨_, rfl, by rw [HF.out]; simp, rfl⟩
      | true =>
        have HK2 : Hid (∀ j, j < k + 1 → B j = true) := fun j hj => by
          by_cases c : j = k
          · subst c
            exact hB
          · exact HK.out j (by omega)
        rw [hB] at c0
        go_wp2_with fail
        go_round
        case rel => exact ⟨k + 1, by omega, by go_num, HK2⟩
        case measure => simp [intOf]; omega
    · obtain rfl : k = n := by omega
      have HF : Hid (allB B k = true) := allB_iff.2 HK.out
      go_wp2_with fail
      go_ret
      exact ⟨_, rfl, by rw [HF.out]; rfl, rfl⟩

theorem contains113 (a : Option Addr) (n cap : Nat) (B : Nat → Bool) (w : World) (hn : n ≤ 1048576) (h : VsAt 1 0 w a n (boolF B)) :
    Calls Tryz.prog 106 #[.slice a n cap, .bool false] w fun e w' => e = .returned (.bool (!allB B n)) ∧ w' = w := by
  go_enter Tryz.func106, Tryz.ntmps106
  go_wp2_with fail
  refine (index136 a n cap B w hn h).mono ?_
  rintro e w1 ⟨r, rfl, hr, rfl⟩
  go_wp2_with fail
  go_ret
  exact ⟨by rw [← hr]; rfl, rfl⟩

/-- what stateOf gives -/
def StR (w : World) (h : Hl) (n : Nat) (hold : Int) (e : Ending) (w' : World) : Prop :=
  ∃ v, e = .returned v ∧ Below w.heap.size w w' ∧ ((stateF h n hold = none ∧ v = .nilIface) ∨ ∃ s, stateF h n hold = some s ∧ WsV w' n s v)
set_option maxRecDepth 100000 in
set_option maxHeartbeats 4000000 in
theorem state80 (st gone : Int) (nb : Nat) (B : Nat → Bool) (sh : Bool) (tm : Int) (rb n : Nat) (hold : Int) (w : World) (hnb : nb ≤ 1048576) (hn : n ≤ 1048576) (cur : Array Value) (hlt : Box w rb 4 cur) (h : VsAt 1 0 w (some ⟨rb, 0, none⟩) nb (boolF B)) :
    Calls Tryz.prog 79 #[.agg #[.int .i64 st, .int .i64 gone, .slice (some ⟨rb, 0, none⟩) nb nb, .bool sh, .int .i64 tm], .int .i64 (n : Int), .int .i64 hold] w fun e w' => StR w ⟨st, gone, nb, B, sh, tm⟩ n hold e w' := by
  have H : Hid (Box w rb 4 cur ∧ VsAt 1 0 w (some ⟨rb, 0, none⟩) nb (boolF B)) := ⟨hlt, h⟩
  have HB : Hid (Below w.heap.size w (w.alloc (.cells #[.int .i64 st, .int .i64 gone, .slice (some ⟨rb, 0, none⟩) nb nb, .bool sh, .int .i64 tm] 72))) := bel1 _ _
  have HNO : Hid (stateF ⟨st, gone, nb, B, sh, tm⟩ n hold = none → StR w ⟨st, gone, nb, B, sh, tm⟩ n hold (.returned .nilIface) (w.alloc (.cells #[.int .i64 st, .int .i64 gone, .slice (some ⟨rb, 0, none⟩) nb nb, .bool sh, .int .i64 tm] 72))) := fun e => ⟨_, rfl, HB.out, .inl ⟨e, rfl⟩⟩
  have HYES : Hid (∀ s v, stateF ⟨st, gone, nb, B, sh, tm⟩ n hold = some s → WsV (w.alloc (.cells #[.int .i64 st, .int .i64 gone, .slice (some ⟨rb, 0, none⟩) nb nb, .bool sh, .int .i64 tm] 72)) n s v → StR w ⟨st, gone, nb, B, sh, tm⟩ n hold (.returned v) (w.alloc (.cells #[.int .i64 st, .int .i64 gone, .slice (some ⟨rb, 0, none⟩) nb nb, .bool sh, .int .i64 tm] 72))) := fun s v e hv => ⟨_, rfl, HB.out, .inr ⟨s, e, hv⟩⟩
  clear h hlt
  by_cases a0 : nb = n
  rotate_left
  · have z0 : ((nb : Int) != (n : Int)) = true := by simp; omega
    have HF := HNO.out (by simp [stateF, a0])
    go_enter Tryz.func79, Tryz.ntmps79
    go_wp2_with fail
    go_ret
    exact HF
  subst a0
  have z0 : ((nb : Int) != (nb : Int)) = false := by simp
  by_cases a1 : st = 0
  · subst a1
    have HF := HYES.out .idle _ (by simp [stateF]) rfl
    go_enter Tryz.func79, Tryz.ntmps79
    go_wp2_with fail
    go_ret
    exact HF
  have z1 : (st == 0) = false := by simpa using a1
  by_cases a2 : st = 1
  · subst a2
    have HF := HYES.out (.set sh) _ (by simp [stateF]) rfl
    go_enter Tryz.func79, Tryz.ntmps79
    go_wp2_with fail
    go_ret
    exact HF
  have z2 : (st == 1) = false := by simpa using a2
  by_cases a3 : st = 2
  · subst a3
    have HF := HYES.out .clear _ (by simp [stateF]) rfl
    go_enter Tryz.func79, Tryz.ntmps79
    go_wp2_with fail
    go_ret
    exact HF
  have z3 : (st == 2) = false := by simpa using a3
  by_cases a4 : st = 3
  · subst a4
    go_enter Tryz.func79, Tryz.ntmps79
    go_wp2_with fail
    refine (within30 tm 1 hold _).mono ?_
    rintro e w1 ⟨he, hw⟩
    have hw := hw.symm
    subst hw
    cases hI : inB tm 1 hold with
    | false =>
      have HF := HNO.out (by simp [stateF, hI])
      rw [hI] at he
      subst he
      go_wp2_with fail
      go_ret
      exact HF
    | true =>
      have HF := HYES.out (.taking tm) _ (by simp [stateF, hI]) rfl
      rw [hI] at he
      subst he
      go_wp2_with fail
      go_ret
      exact HF
  have z4 : (st == 3) = false := by simpa using a4
  by_cases a5 : st = 4
  · subst a5
    have hn64 : (-9223372036854775808 : Int) ≤ (nb : Int) - 1 ∧ (nb : Int) - 1 ≤ 9223372036854775807 := by omega
    go_enter Tryz.func79, Tryz.ntmps79
    go_wp2_with fail
    refine (within30 gone 0 ((nb : Int) - 1) _).mono ?_
    rintro e w1 ⟨he, hw⟩
    have hw := hw.symm
    subst hw
    cases hI : inB gone 0 ((nb : Int) - 1) with
    | false =>
      have HF := HNO.out (by simp [stateF, hI])
      rw [hI] at he
      subst he
      go_wp2_with fail
      go_ret
      exact HF
    | true =>
      rw [hI] at he
      subst he
      have hI2 := hI
      simp only [inB, Bool.and_eq_true, decide_eq_true_eq] at hI2
      obtain ⟨g, rfl⟩ : ∃ g : Nat, gone = (g : Int) := ⟨gone.toNat, by omega⟩
      have hg : g ≤ nb := by omega
      have hg' : (g : Int) ≤ (nb : Int) := by omega
      have hg0 : (0 : Int) ≤ (g : Int) := by omega
      clear hI2
      go_wp2_with fail
      refine (contains113 (some ⟨rb, 0, none⟩) g nb B _ (by omega) ?_).mono ?_
      · intro h0
        obtain ⟨b, off, e, h1, h2, h3⟩ := H.out.2.mono (Nat.le_refl _) HB.out (Nat.le_refl _) (by omega)
        exact ⟨b, off, e, h1, h2, fun i hi => h3 i (by omega)⟩
      rintro e w1 ⟨he, hw⟩
      have hw := hw.symm
      subst hw
      cases hA : allB B g with
      | false =>
        have HF := HNO.out (by simp [stateF, hI, hA])
        rw [hA] at he
        subst he
        go_wp2_with fail
        go_ret
        exact HF
      | true =>
        have HF := HYES.out (.used g B sh) _ (by simp [stateF, hI, hA]) ⟨rb, nb, cur, rfl, H.out.1.mono HB.out (Nat.le_refl _), H.out.2.mono (Nat.le_refl _) HB.out (Nat.le_refl _)⟩
        rw [hA] at he
        subst he
        go_wp2_with fail
        go_ret
        exact HF
  have z5 : (st == 4) = false := by simpa using a5
  have HF := HNO.out (by simp [stateF, a1, a2, a3, a4, a5])
  go_enter Tryz.func79, Tryz.ntmps79
  go_wp2_with fail
  go_ret
  exact HF

end Go.Proofs.YtkeilejbelblcaaGreatDoor

namespace Go.Proofs.YtkeilejbelblcaaGreatDoor
open Go.RowKit

set_option maxHeartbeats 400000 in
theorem toTurn (a0 a1 : Int) (w : World) :
    Calls Tryz.prog 125 #[.agg #[.int .i64 a0, .int .i64 a1]] w fun e w' => e = .returned (.agg #[.int .i64 a0, .int .i64 a1]) ∧ Below w.heap.size w w' := by
  go_enter Tryz.func125, Tryz.ntmps125
  go_wp2
  exact bodyPost_ret (v := .agg #[.int .i64 a0, .int .i64 a1]) (by simp [results, Tryz.results125, go_sem]) rfl ⟨rfl, bel3 _ _ _ _⟩

set_option maxHeartbeats 1000000 in
theorem toTurnS (a : Option Addr) (n cap : Nat) (F : Nat → Nat → Int) (w : World) (hn : n ≤ 1048576) (hE : VsAt 2 0 w a n (intF F)) :
    Calls Tryz.prog 103 #[.slice a n cap] w fun e w' => ∃ b, b = w.heap.size ∧ e = .returned (.slice (some ⟨b, 0, none⟩) n n) ∧ VOwn b 146 2 w' (.slice (some ⟨b, 0, none⟩) n n) n (intF F) ∧ Below w.heap.size w w' := by
  have hmk := make_rows (P := Tryz.prog) 110 146 _ 16 2 Tryz.underlying110 infoTurn n (by omega) (by omega)
  have hf0 := VTo.new 2 146 w (.agg #[.int .i64 0, .int .i64 0]) n (intF F)
  go_enter Tryz.func103, Tryz.ntmps103
  go_wp2_with fail
  go_loopw [4] (fun i wr => ∃ (k : Nat), k ≤ n ∧ i = .int .i64 k ∧ VTo 2 146 wr w.heap.size n (k * 2) (intF F) ∧ Below w.heap.size w wr) (fun i _ => n - (intOf i).toNat)
  case atStart => exact ⟨0, Nat.zero_le _, rfl, by first | exact hf0 | simpa only [Nat.mul_one] using hf0, bel1 _ _⟩
  case round =>
    obtain ⟨k, hk, rfl, hto, hbel⟩ := hrel
    clear hf0 hmk
    by_cases hlt : k < n
    · obtain ⟨b, off, rfl, _, hb, hc⟩ := (hE.mono (Nat.le_refl _) hbel (Nat.le_refl _)) (by omega)
      have c0 : wr.cell? ⟨b, off + k * 2, none⟩ = some (.int .i64 (F k 0)) := hc k hlt 0 (by omega)
      have c1 : wr.cell? ⟨b, off + k * 2 + 1, none⟩ = some (.int .i64 (F k 1)) := hc k hlt 1 (by omega)
      clear hc
      go_wp2_with fail
      refine (toTurn (F k 0) (F k 1) _).mono ?_
      rintro e w1 ⟨rfl, hb1⟩
      have hto1 : VTo 2 146 w1 w.heap.size n (k * 2) (intF F) := hto.below hb1
      have hbel1 := hbel.trans (hb1.mono hbel.size)
      have hR := ((hto1.step (x := .int .i64 (F k 0)) (by rw [show (k * 2) / 2 = k by omega, show (k * 2) % 2 = 0 by omega] <;> rfl)).step (x := .int .i64 (F k 1)) (by rw [show (k * 2 + 1) / 2 = k by omega, show (k * 2 + 1) % 2 = 1 by omega] <;> rfl))
      obtain ⟨f, hr1, _⟩ := hto1
      have d0 := hr1.cell (i := k * 2) (by omega)
      have e0 := hr1.frozen (k * 2)
      have d1 := hr1.cell (i := k * 2 + 1) (by omega)
      have e1 := hr1.frozen (k * 2 + 1)
      clear c0 c1 hto hr1
      go_wp2_with fail
      go_roundw
      case rel => exact ⟨k + 1, by omega, by go_num, by rw [show (k + 1) * 2 = k * 2 + 1 + 1 by omega]; exact hR, ((hbel1.setCell (Nat.le_refl _) _).setCell (Nat.le_refl _) _)⟩
      case measure => simp [intOf]; omega
    · obtain rfl : k = n := by omega
      go_wp2
      go_ret
      exact ⟨_, rfl, rfl, VTo.own (by simpa using hto) (by simp [maxLen]; omega), hbel⟩

set_option maxHeartbeats 1000000 in
theorem toBoolS (a : Option Addr) (n cap : Nat) (D : Nat → Bool) (w : World) (hn : n ≤ 1048576) (hE : VsAt 1 0 w a n (boolF D)) :
    Calls Tryz.prog 39 #[.slice a n cap] w fun e w' => ∃ b, b = w.heap.size ∧ e = .returned (.slice (some ⟨b, 0, none⟩) n n) ∧ VOwn b 4 1 w' (.slice (some ⟨b, 0, none⟩) n n) n (boolF D) ∧ Below w.heap.size w w' := by
  have hmk := make_rows (P := Tryz.prog) 27 4 _ 1 1 Tryz.underlying27 infoBool n (by omega) (by omega)
  have hf0 := VTo.new 1 4 w (.bool false) n (boolF D)
  go_enter Tryz.func39, Tryz.ntmps39
  go_wp2_with fail
  go_loopw [4] (fun i wr => ∃ (k : Nat), k ≤ n ∧ i = .int .i64 k ∧ VTo 1 4 wr w.heap.size n (k) (boolF D) ∧ Below w.heap.size w wr) (fun i _ => n - (intOf i).toNat)
  case atStart => exact ⟨0, Nat.zero_le _, rfl, by first | exact hf0 | simpa only [Nat.mul_one] using hf0, bel1 _ _⟩
  case round =>
    obtain ⟨k, hk, rfl, hto, hbel⟩ := hrel
    clear hf0 hmk
    by_cases hlt : k < n
    · obtain ⟨b, off, rfl, _, hb, hc⟩ := (hE.mono (Nat.le_refl _) hbel (Nat.le_refl _)) (by omega)
      have c0 : wr.cell? ⟨b, off + k, none⟩ = some (.bool (D k)) := by have := hc k hlt 0 (by omega); rwa [Nat.mul_one] at this
      clear hc
      have hto1 : VTo 1 4 wr w.heap.size n (k) (boolF D) := hto
      have hbel1 := hbel
      have hR := (hto1.step (x := .bool (D k)) (by rw [show k / 1 = k by omega] <;> rfl))
      obtain ⟨f, hr1, _⟩ := hto1
      have d0 := hr1.cell (i := k) (by omega)
      have e0 := hr1.frozen (k)
      clear  hto hr1
      go_wp2_with fail
      go_roundw
      case rel => exact ⟨k + 1, by omega, by go_num, by exact hR, (hbel1.setCell (Nat.le_refl _) _)⟩
      case measure => simp [intOf]; omega
    · obtain rfl : k = n := by omega
      go_wp2
      go_ret
      exact ⟨_, rfl, rfl, VTo.own (by simpa using hto) (by simp [maxLen]; omega), hbel⟩

set_option maxHeartbeats 1000000 in
theorem toIntS (a : Option Addr) (n cap : Nat) (D : Nat → Int) (w : World) (hn : n ≤ 1048576) (hE : VsAt 1 0 w a n (oneF D)) :
    Calls Tryz.prog 36 #[.slice a n cap] w fun e w' => ∃ b, b = w.heap.size ∧ e = .returned (.slice (some ⟨b, 0, none⟩) n n) ∧ VOwn b 3 1 w' (.slice (some ⟨b, 0, none⟩) n n) n (oneF D) ∧ Below w.heap.size w w' := by
  have hmk := make_rows (P := Tryz.prog) 22 3 _ 8 1 Tryz.underlying22 infoInt n (by omega) (by omega)
  have hf0 := VTo.new 1 3 w (.int .i64 0) n (oneF D)
  go_enter Tryz.func36, Tryz.ntmps36
  go_wp2_with fail
  go_loopw [4] (fun i wr => ∃ (k : Nat), k ≤ n ∧ i = .int .i64 k ∧ VTo 1 3 wr w.heap.size n (k) (oneF D) ∧ Below w.heap.size w wr) (fun i _ => n - (intOf i).toNat)
  case atStart => exact ⟨0, Nat.zero_le _, rfl, by first | exact hf0 | simpa only [Nat.mul_one] using hf0, bel1 _ _⟩
  case round =>
    obtain ⟨k, hk, rfl, hto, hbel⟩ := hrel
    clear hf0 hmk
    by_cases hlt : k < n
    · obtain ⟨b, off, rfl, _, hb, hc⟩ := (hE.mono (Nat.le_refl _) hbel (Nat.le_refl _)) (by omega)
      have c0 : wr.cell? ⟨b, off + k, none⟩ = some (.int .i64 (D k)) := by have := hc k hlt 0 (by omega); rwa [Nat.mul_one] at this
      clear hc
      have hto1 : VTo 1 3 wr w.heap.size n (k) (oneF D) := hto
      have hbel1 := hbel
      have hR := (hto1.step (x := .int .i64 (D k)) (by rw [show k / 1 = k by omega] <;> rfl))
      obtain ⟨f, hr1, _⟩ := hto1
      have d0 := hr1.cell (i := k) (by omega)
      have e0 := hr1.frozen (k)
      clear  hto hr1
      go_wp2_with fail
      go_roundw
      case rel => exact ⟨k + 1, by omega, by go_num, by exact hR, (hbel1.setCell (Nat.le_refl _) _)⟩
      case measure => simp [intOf]; omega
    · obtain rfl : k = n := by omega
      go_wp2
      go_ret
      exact ⟨_, rfl, rfl, VTo.own (by simpa using hto) (by simp [maxLen]; omega), hbel⟩


end Go.Proofs.YtkeilejbelblcaaGreatDoor
