import Derived.Test.YtlgapgajgpilgaaGreatDoorZap
import Derived.Test.YtlgapgajgpilgaaGreatDoorZad
import Derived.Test.YtlgapgajgpilgaaGreatDoorZai
import Derived.Test.YtlgapgajgpilgaaGreatDoorZab
namespace Go.Proofs.YtlgapgajgpilgaaGreatDoor
open Go.RowKit
theorem iface_oc (t : TypeId) (v : Value) : (Value.iface t v).oneCell' = true := rfl
def WsV (w : World) (n : Nat) : WS → Value → Prop
 | .idle, v => v = .iface 155 (.agg #[])
 | .set sh, v => v = .iface 157 (.agg #[.bool sh])
 | .clear, v => v = .iface 158 (.agg #[])
 | .taking t, v => v = .iface 160 (.agg #[.int .i64 t])
 | .used g B sh, v => ∃ b cap cur, v = .iface 163 (.agg #[.int .i64 (g : Int), .slice (some ⟨b, 0, none⟩) n cap, .bool sh]) ∧ Box w b 4 cur ∧ VsAt 1 0 w (some ⟨b, 0, none⟩) n (boolF B)
theorem WsV.keep {w w' : World} {n : Nat} {s : WS} {v : Value} (h : WsV w n s v) (hs : w.heap.size ≤ w'.heap.size) (hk : ∀ b, b < w.heap.size → w'.heap[b]? = w.heap[b]?) : WsV w' n s v := by
 cases s with
 | used g B sh =>
  obtain ⟨b, cap, cur, h1, h2, h3⟩ := h
  exact ⟨b, cap, cur, h1, h2.keep (hk b h2.lt), h3.keep nr hs fun x _ hx => hk x hx⟩
 | idle => exact h
 | set sh => exact h
 | clear => exact h
 | taking t => exact h
theorem WsV.mono {w w' : World} {n : Nat} {s : WS} {v : Value} {B : Nat} (h : WsV w n s v) (hb : Below B w w') (hB : w.heap.size ≤ B) : WsV w' n s v :=
 h.keep hb.size fun b hlt => hb.block b (by omega)
theorem WsV.one {w : World} {n : Nat} {s : WS} {v : Value} (h : WsV w n s v) : ∃ t x, v = .iface t x := by
 cases s with
 | used g B sh =>
  obtain ⟨b, cap, cur, h1, _⟩ := h
  exact ⟨_, _, h1⟩
 | idle => exact ⟨_, _, h⟩
 | set sh => exact ⟨_, _, h⟩
 | clear => exact ⟨_, _, h⟩
 | taking t => exact ⟨_, _, h⟩
set_option maxHeartbeats 1000000 in
theorem index136 (a : Option Addr) (n cap : Nat) (B : Nat → Bool) (w : World) (hn : n ≤ 1048576) (h : VsAt 1 0 w a n (boolF B)) :
  Calls Tryz.prog 129 #[.slice a n cap, .bool false] w fun e w' => ∃ r : Int, e = .returned (.int .i64 r) ∧ decide (0 ≤ r) = !allB B n ∧ w' = w := by
 have H : Hid (VsAt 1 0 w a n (boolF B)) := h
 clear h
 go_enter Tryz.func129, Tryz.ntmps129
 go_wp2_with fail
 go_loop [8] (fun i => ∃ k : Nat, k ≤ n ∧ i = .int .i64 k ∧ Hid (∀ j, j < k → B j = true)) (fun i => n - (intOf i).toNat)
 case atStart => exact ⟨0, Nat.zero_le _, rfl, fun i hi => absurd hi (Nat.not_lt_zero _)⟩
 case round =>
  obtain ⟨k, hk, rfl, HK⟩ := hrel
  by_cases hlt : k < n
  ·
   obtain ⟨b, off, rfl, _, hb, hc⟩ := H.out (by omega)
   have c0 : w.cell? ⟨b, off + k, none⟩ = some (.bool (B k)) := by have := hc k hlt 0 (by omega); rwa [Nat.mul_one] at this
   have hk0 : (0 : Int) ≤ (k : Int) := by omega
   have hkn : (k : Int) < (n : Int) := by omega
   clear hc
   cases hB : B k with
   | false =>
    have HF : Hid (allB B n = false) := allB_no hlt hB
    rw [hB] at c0
    go_wp2_with fail
    go_ret
    exact ⟨_, rfl, by rw [HF.out]; simp, rfl⟩
   | true =>
    have HK2 : Hid (∀ j, j < k + 1 → B j = true) := fun j hj => by
     by_cases c : j = k
     ·
      subst c
      exact hB
     ·
      exact HK.out j (by omega)
    rw [hB] at c0
    go_wp2_with fail
    go_round
    case rel => exact ⟨k + 1, by omega, by go_num, HK2⟩
    case measure => simp [intOf]; omega
  ·
   obtain rfl : k = n := by omega
   have HF : Hid (allB B k = true) := allB_iff.2 HK.out
   go_wp2_with fail
   go_ret
   exact ⟨_, rfl, by rw [HF.out]; rfl, rfl⟩
theorem contains113 (a : Option Addr) (n cap : Nat) (B : Nat → Bool) (w : World) (hn : n ≤ 1048576) (h : VsAt 1 0 w a n (boolF B)) :
  Calls Tryz.prog 109 #[.slice a n cap, .bool false] w fun e w' => e = .returned (.bool (!allB B n)) ∧ w' = w := by
 go_enter Tryz.func109, Tryz.ntmps109
 go_wp2_with fail
 refine (index136 a n cap B w hn h).mono ?_
 rintro e w1 ⟨r, rfl, hr, rfl⟩
 go_wp2_with fail
 go_ret
 exact ⟨by rw [← hr]; rfl, rfl⟩
def StR (w : World) (h : Hl) (n : Nat) (hold : Int) (e : Ending) (w' : World) : Prop :=
 ∃ v, e = .returned v ∧ Below w.heap.size w w' ∧ ((stateF h n hold = none ∧ v = .nilIface) ∨ ∃ s, stateF h n hold = some s ∧ WsV w' n s v)
set_option maxRecDepth 100000 in
set_option maxHeartbeats 4000000 in
theorem state80 (st gone : Int) (nb : Nat) (B : Nat → Bool) (sh : Bool) (tm : Int) (rb n : Nat) (hold : Int) (w : World) (hnb : nb ≤ 1048576) (hn : n ≤ 1048576) (cur : Array Value) (hlt : Box w rb 4 cur) (h : VsAt 1 0 w (some ⟨rb, 0, none⟩) nb (boolF B)) :
  Calls Tryz.prog 77 #[.agg #[.int .i64 st, .int .i64 gone, .slice (some ⟨rb, 0, none⟩) nb nb, .bool sh, .int .i64 tm], .int .i64 (n : Int), .int .i64 hold] w fun e w' => StR w ⟨st, gone, nb, B, sh, tm⟩ n hold e w' := by
 have H : Hid (Box w rb 4 cur ∧ VsAt 1 0 w (some ⟨rb, 0, none⟩) nb (boolF B)) := ⟨hlt, h⟩
 have HB : Hid (Below w.heap.size w (w.alloc (.cells #[.int .i64 st, .int .i64 gone, .slice (some ⟨rb, 0, none⟩) nb nb, .bool sh, .int .i64 tm] 109))) := bel1 _ _
 have HNO : Hid (stateF ⟨st, gone, nb, B, sh, tm⟩ n hold = none → StR w ⟨st, gone, nb, B, sh, tm⟩ n hold (.returned .nilIface) (w.alloc (.cells #[.int .i64 st, .int .i64 gone, .slice (some ⟨rb, 0, none⟩) nb nb, .bool sh, .int .i64 tm] 109))) := fun e => ⟨_, rfl, HB.out, .inl ⟨e, rfl⟩⟩
 have HYES : Hid (∀ s v, stateF ⟨st, gone, nb, B, sh, tm⟩ n hold = some s → WsV (w.alloc (.cells #[.int .i64 st, .int .i64 gone, .slice (some ⟨rb, 0, none⟩) nb nb, .bool sh, .int .i64 tm] 109)) n s v → StR w ⟨st, gone, nb, B, sh, tm⟩ n hold (.returned v) (w.alloc (.cells #[.int .i64 st, .int .i64 gone, .slice (some ⟨rb, 0, none⟩) nb nb, .bool sh, .int .i64 tm] 109))) := fun s v e hv => ⟨_, rfl, HB.out, .inr ⟨s, e, hv⟩⟩
 clear h hlt
 by_cases a0 : nb = n
 rotate_left
 ·
  have z0 : ((nb : Int) != (n : Int)) = true := by simp; omega
  have HF := HNO.out (by simp [stateF, a0])
  go_enter Tryz.func77, Tryz.ntmps77
  go_wp2_with fail
  go_ret
  exact HF
 subst a0
 have z0 : ((nb : Int) != (nb : Int)) = false := by simp
 by_cases a1 : st = 0
 ·
  subst a1
  have HF := HYES.out .idle _ (by simp [stateF]) rfl
  go_enter Tryz.func77, Tryz.ntmps77
  go_wp2_with fail
  go_ret
  exact HF
 have z1 : (st == 0) = false := by simpa using a1
 by_cases a2 : st = 1
 ·
  subst a2
  have HF := HYES.out (.set sh) _ (by simp [stateF]) rfl
  go_enter Tryz.func77, Tryz.ntmps77
  go_wp2_with fail
  go_ret
  exact HF
 have z2 : (st == 1) = false := by simpa using a2
 by_cases a3 : st = 2
 ·
  subst a3
  have HF := HYES.out .clear _ (by simp [stateF]) rfl
  go_enter Tryz.func77, Tryz.ntmps77
  go_wp2_with fail
  go_ret
  exact HF
 have z3 : (st == 2) = false := by simpa using a3
 by_cases a4 : st = 3
 ·
  subst a4
  go_enter Tryz.func77, Tryz.ntmps77
  go_wp2_with fail
  refine (within30 tm 1 hold _).mono ?_
  rintro e w1 ⟨he, hw⟩
  have hw := hw.symm
  subst hw
  cases hI : inB tm 1 hold with
  | false =>
   have HF := HNO.out (by simp [stateF, hI])
   rw [hI] at he
   subst he
   go_wp2_with fail
   go_ret
   exact HF
  | true =>
   have HF := HYES.out (.taking tm) _ (by simp [stateF, hI]) rfl
   rw [hI] at he
   subst he
   go_wp2_with fail
   go_ret
   exact HF
 have z4 : (st == 3) = false := by simpa using a4
 by_cases a5 : st = 4
 ·
  subst a5
  have hn64 : (-9223372036854775808 : Int) ≤ (nb : Int) - 1 ∧ (nb : Int) - 1 ≤ 9223372036854775807 := by omega
  go_enter Tryz.func77, Tryz.ntmps77
  go_wp2_with fail
  refine (within30 gone 0 ((nb : Int) - 1) _).mono ?_
  rintro e w1 ⟨he, hw⟩
  have hw := hw.symm
  subst hw
  cases hI : inB gone 0 ((nb : Int) - 1) with
  | false =>
   have HF := HNO.out (by simp [stateF, hI])
   rw [hI] at he
   subst he
   go_wp2_with fail
   go_ret
   exact HF
  | true =>
   rw [hI] at he
   subst he
   have hI2 := hI
   simp only [inB, Bool.and_eq_true, decide_eq_true_eq] at hI2
   obtain ⟨g, rfl⟩ : ∃ g : Nat, gone = (g : Int) := ⟨gone.toNat, by omega⟩
   have hg : g ≤ nb := by omega
   have hg' : (g : Int) ≤ (nb : Int) := by omega
   have hg0 : (0 : Int) ≤ (g : Int) := by omega
   clear hI2
   go_wp2_with fail
   refine (contains113 (some ⟨rb, 0, none⟩) g nb B _ (by omega) ?_).mono ?_
   ·
    intro h0
    obtain ⟨b, off, e, h1, h2, h3⟩ := H.out.2.mono nr HB.out nr (by omega)
    exact ⟨b, off, e, h1, h2, fun i hi => h3 i (by omega)⟩
   rintro e w1 ⟨he, hw⟩
   have hw := hw.symm
   subst hw
   cases hA : allB B g with
   | false =>
    have HF := HNO.out (by simp [stateF, hI, hA])
    rw [hA] at he
    subst he
    go_wp2_with fail
    go_ret
    exact HF
   | true =>
    have HF := HYES.out (.used g B sh) _ (by simp [stateF, hI, hA]) ⟨rb, nb, cur, rfl, H.out.1.mono HB.out nr, H.out.2.mono nr HB.out nr⟩
    rw [hA] at he
    subst he
    go_wp2_with fail
    go_ret
    exact HF
 have z5 : (st == 4) = false := by simpa using a5
 have HF := HNO.out (by simp [stateF, a1, a2, a3, a4, a5])
 go_enter Tryz.func77, Tryz.ntmps77
 go_wp2_with fail
 go_ret
 exact HF
end Go.Proofs.YtlgapgajgpilgaaGreatDoor
namespace Go.Proofs.YtlgapgajgpilgaaGreatDoor
open Go.RowKit
set_option maxHeartbeats 400000 in
theorem toTurn (a0 a1 : Int) (w : World) :
  Calls Tryz.prog 124 #[.agg #[.int .i64 a0, .int .i64 a1]] w fun e w' => e = .returned (.agg #[.int .i64 a0, .int .i64 a1]) ∧ Below w.heap.size w w' := by
 go_enter Tryz.func124, Tryz.ntmps124
 go_wp2
 exact bodyPost_ret (v := .agg #[.int .i64 a0, .int .i64 a1]) (by simp [results, Tryz.results124, go_sem]) rfl ⟨rfl, bel3 _ _ _ _⟩
set_option maxHeartbeats 1000000 in
theorem toTurnS (a : Option Addr) (n cap : Nat) (F : Nat → Nat → Int) (w : World) (hn : n ≤ 1048576) (hE : VsAt 2 0 w a n (intF F)) :
  Calls Tryz.prog 106 #[.slice a n cap] w fun e w' => ∃ b, b = w.heap.size ∧ e = .returned (.slice (some ⟨b, 0, none⟩) n n) ∧ VOwn b 133 2 w' (.slice (some ⟨b, 0, none⟩) n n) n (intF F) ∧ Below w.heap.size w w' := by
 have hmk := make_rows (P := Tryz.prog) 94 133 _ 16 2 Tryz.underlying94 infoTurn n (by omega) (by omega)
 have hf0 := VTo.new 2 133 w (.agg #[.int .i64 0, .int .i64 0]) n (intF F)
 go_enter Tryz.func106, Tryz.ntmps106
 go_wp2_with fail
 go_loopw [4] (fun i wr => ∃ (k : Nat), k ≤ n ∧ i = .int .i64 k ∧ VTo 2 133 wr w.heap.size n (k * 2) (intF F) ∧ Below w.heap.size w wr) (fun i _ => n - (intOf i).toNat)
 case atStart => exact ⟨0, Nat.zero_le _, rfl, by first | exact hf0 | simpa only [Nat.mul_one] using hf0, bel1 _ _⟩
 case round =>
  obtain ⟨k, hk, rfl, hto, hbel⟩ := hrel
  clear hf0 hmk
  by_cases hlt : k < n
  ·
   obtain ⟨b, off, rfl, _, hb, hc⟩ := (hE.mono nr hbel nr) (by omega)
   have c0 : wr.cell? ⟨b, off + k * 2, none⟩ = some (.int .i64 (F k 0)) := hc k hlt 0 (by omega)
   have c1 : wr.cell? ⟨b, off + k * 2 + 1, none⟩ = some (.int .i64 (F k 1)) := hc k hlt 1 (by omega)
   clear hc
   go_wp2_with fail
   refine (toTurn (F k 0) (F k 1) _).mono ?_
   rintro e w1 ⟨rfl, hb1⟩
   have hto1 : VTo 2 133 w1 w.heap.size n (k * 2) (intF F) := hto.below hb1
   have hbel1 := hbel.trans (hb1.mono hbel.size)
   have hR := ((hto1.step (x := .int .i64 (F k 0)) (by rw [show (k * 2) / 2 = k by omega, show (k * 2) % 2 = 0 by omega] <;> rfl)).step (x := .int .i64 (F k 1)) (by rw [show (k * 2 + 1) / 2 = k by omega, show (k * 2 + 1) % 2 = 1 by omega] <;> rfl))
   obtain ⟨f, hr1, _⟩ := hto1
   have d0 := hr1.cell (i := k * 2) (by omega)
   have e0 := hr1.frozen (k * 2)
   have d1 := hr1.cell (i := k * 2 + 1) (by omega)
   have e1 := hr1.frozen (k * 2 + 1)
   clear c0 c1 hto hr1
   go_wp2_with fail
   go_roundw
   case rel => exact ⟨k + 1, by omega, by go_num, by rw [show (k + 1) * 2 = k * 2 + 1 + 1 by omega]; exact hR, ((hbel1.setCell nr _).setCell nr _)⟩
   case measure => simp [intOf]; omega
  ·
   obtain rfl : k = n := by omega
   go_wp2
   go_ret
   exact ⟨_, rfl, rfl, VTo.own (by simpa using hto) (by simp [maxLen]; omega), hbel⟩
set_option maxHeartbeats 1000000 in
theorem toBoolS (a : Option Addr) (n cap : Nat) (D : Nat → Bool) (w : World) (hn : n ≤ 1048576) (hE : VsAt 1 0 w a n (boolF D)) :
  Calls Tryz.prog 41 #[.slice a n cap] w fun e w' => ∃ b, b = w.heap.size ∧ e = .returned (.slice (some ⟨b, 0, none⟩) n n) ∧ VOwn b 4 1 w' (.slice (some ⟨b, 0, none⟩) n n) n (boolF D) ∧ Below w.heap.size w w' := by
 have hmk := make_rows (P := Tryz.prog) 27 4 _ 1 1 Tryz.underlying27 infoBool n (by omega) (by omega)
 have hf0 := VTo.new 1 4 w (.bool false) n (boolF D)
 go_enter Tryz.func41, Tryz.ntmps41
 go_wp2_with fail
 go_loopw [4] (fun i wr => ∃ (k : Nat), k ≤ n ∧ i = .int .i64 k ∧ VTo 1 4 wr w.heap.size n (k) (boolF D) ∧ Below w.heap.size w wr) (fun i _ => n - (intOf i).toNat)
 case atStart => exact ⟨0, Nat.zero_le _, rfl, by first | exact hf0 | simpa only [Nat.mul_one] using hf0, bel1 _ _⟩
 case round =>
  obtain ⟨k, hk, rfl, hto, hbel⟩ := hrel
  clear hf0 hmk
  by_cases hlt : k < n
  ·
   obtain ⟨b, off, rfl, _, hb, hc⟩ := (hE.mono nr hbel nr) (by omega)
   have c0 : wr.cell? ⟨b, off + k, none⟩ = some (.bool (D k)) := by have := hc k hlt 0 (by omega); rwa [Nat.mul_one] at this
   clear hc
   have hto1 : VTo 1 4 wr w.heap.size n (k) (boolF D) := hto
   have hbel1 := hbel
   have hR := (hto1.step (x := .bool (D k)) (by rw [show k / 1 = k by omega] <;> rfl))
   obtain ⟨f, hr1, _⟩ := hto1
   have d0 := hr1.cell (i := k) (by omega)
   have e0 := hr1.frozen (k)
   clear  hto hr1
   go_wp2_with fail
   go_roundw
   case rel => exact ⟨k + 1, by omega, by go_num, by exact hR, (hbel1.setCell nr _)⟩
   case measure => simp [intOf]; omega
  ·
   obtain rfl : k = n := by omega
   go_wp2
   go_ret
   exact ⟨_, rfl, rfl, VTo.own (by simpa using hto) (by simp [maxLen]; omega), hbel⟩
set_option maxHeartbeats 1000000 in
theorem toIntS (a : Option Addr) (n cap : Nat) (D : Nat → Int) (w : World) (hn : n ≤ 1048576) (hE : VsAt 1 0 w a n (oneF D)) :
  Calls Tryz.prog 38 #[.slice a n cap] w fun e w' => ∃ b, b = w.heap.size ∧ e = .returned (.slice (some ⟨b, 0, none⟩) n n) ∧ VOwn b 3 1 w' (.slice (some ⟨b, 0, none⟩) n n) n (oneF D) ∧ Below w.heap.size w w' := by
 have hmk := make_rows (P := Tryz.prog) 22 3 _ 8 1 Tryz.underlying22 infoInt n (by omega) (by omega)
 have hf0 := VTo.new 1 3 w (.int .i64 0) n (oneF D)
 go_enter Tryz.func38, Tryz.ntmps38
 go_wp2_with fail
 go_loopw [4] (fun i wr => ∃ (k : Nat), k ≤ n ∧ i = .int .i64 k ∧ VTo 1 3 wr w.heap.size n (k) (oneF D) ∧ Below w.heap.size w wr) (fun i _ => n - (intOf i).toNat)
 case atStart => exact ⟨0, Nat.zero_le _, rfl, by first | exact hf0 | simpa only [Nat.mul_one] using hf0, bel1 _ _⟩
 case round =>
  obtain ⟨k, hk, rfl, hto, hbel⟩ := hrel
  clear hf0 hmk
  by_cases hlt : k < n
  ·
   obtain ⟨b, off, rfl, _, hb, hc⟩ := (hE.mono nr hbel nr) (by omega)
   have c0 : wr.cell? ⟨b, off + k, none⟩ = some (.int .i64 (D k)) := by have := hc k hlt 0 (by omega); rwa [Nat.mul_one] at this
   clear hc
   have hto1 : VTo 1 3 wr w.heap.size n (k) (oneF D) := hto
   have hbel1 := hbel
   have hR := (hto1.step (x := .int .i64 (D k)) (by rw [show k / 1 = k by omega] <;> rfl))
   obtain ⟨f, hr1, _⟩ := hto1
   have d0 := hr1.cell (i := k) (by omega)
   have e0 := hr1.frozen (k)
   clear  hto hr1
   go_wp2_with fail
   go_roundw
   case rel => exact ⟨k + 1, by omega, by go_num, by exact hR, (hbel1.setCell nr _)⟩
   case measure => simp [intOf]; omega
  ·
   obtain rfl : k = n := by omega
   go_wp2
   go_ret
   exact ⟨_, rfl, rfl, VTo.own (by simpa using hto) (by simp [maxLen]; omega), hbel⟩
end Go.Proofs.YtlgapgajgpilgaaGreatDoor
namespace Go.Proofs.YtlgapgajgpilgaaGreatDoor
open Go.RowKit
structure WyOwn (C : Nat) (w : World) (y : Wy) (b1 b2 b3 b4 b5 : Nat) : Prop where
 c1 : C ≤ b1
 c2 : b1 < b2
 c3 : b2 < b3
 c4 : b3 < b4
 c5 : b4 < b5
 s : VOwn b1 3 1 w (.slice (some ⟨b1, 0, none⟩) y.ns y.ns) y.ns (oneF y.S)
 l : VOwn b2 133 2 w (.slice (some ⟨b2, 0, none⟩) y.nl y.nl) y.nl (intF y.L)
 f : VOwn b3 133 2 w (.slice (some ⟨b3, 0, none⟩) y.nf y.nf) y.nf (intF y.F)
 o : VOwn b4 3 1 w (.slice (some ⟨b4, 0, none⟩) y.no y.no) y.no (oneF y.O)
 m : VOwn b5 3 1 w (.slice (some ⟨b5, 0, none⟩) y.nm y.nm) y.nm (oneF y.M)
theorem WyOwn.keep {C C' : Nat} {w w' : World} {y : Wy} {b1 b2 b3 b4 b5 : Nat} (h : WyOwn C w y b1 b2 b3 b4 b5) (hC : C' ≤ C) (hk : ∀ g, C ≤ g → g ≤ b5 → w'.heap[g]? = w.heap[g]?) : WyOwn C' w' y b1 b2 b3 b4 b5 := by
 obtain ⟨h1, h2, h3, h4, h5, a, b, c, d, e⟩ := h
 refine ⟨by omega, h2, h3, h4, h5, a.keep nr ?_, b.keep nr ?_, c.keep nr ?_, d.keep nr ?_, e.keep nr ?_⟩ <;>
 ·
  intro g hg
  simp only [Value.ownBlock, Option.some.injEq] at hg
  exact hk g (by omega) (by omega)
theorem WyOwn.lt {C : Nat} {w : World} {y : Wy} {b1 b2 b3 b4 b5 : Nat} (h : WyOwn C w y b1 b2 b3 b4 b5) : b5 < w.heap.size := (h.m.lt rfl).2
theorem WyOwn.mono {C C' : Nat} {w w' : World} {y : Wy} {b1 b2 b3 b4 b5 N : Nat} (h : WyOwn C w y b1 b2 b3 b4 b5) (hC : C' ≤ C) (hb : Below N w w') (hN : w.heap.size ≤ N) : WyOwn C' w' y b1 b2 b3 b4 b5 := h.keep hC fun g _ hg => hb.block g (by have := h.lt; omega)
theorem WyOwn.in {C C' : Nat} {w : World} {y : Wy} {b1 b2 b3 b4 b5 : Nat} (h : WyOwn C w y b1 b2 b3 b4 b5) (hC : C' ≤ C) : WyIn C' w y (some ⟨b1, 0, none⟩) (some ⟨b2, 0, none⟩) (some ⟨b3, 0, none⟩) (some ⟨b4, 0, none⟩) (some ⟨b5, 0, none⟩) := by
 have h1 := h.c1
 have h2 := h.c2
 have h3 := h.c3
 have h4 := h.c4
 have h5 := h.c5
 exact ⟨h.s.vs.le (by omega), h.l.vs.le (by omega), h.f.vs.le (by omega), h.o.vs.le (by omega), h.m.vs.le (by omega)⟩
set_option maxRecDepth 100000 in
set_option maxHeartbeats 4000000 in
theorem toWay (y : Wy) (sa la fa oa ma : Option Addr) (sc lc fc oc mc : Nat) (w : World) (hs : y.small 1048576) (h : WyIn 0 w y sa la fa oa ma) :
  Calls Tryz.prog 72 #[.agg #[.slice sa y.ns sc, .slice la y.nl lc, .slice fa y.nf fc, .slice oa y.no oc, .slice ma y.nm mc]] w fun e w' => ∃ b1 b2 b3 b4 b5, e = .returned (.agg #[.slice (some ⟨b1, 0, none⟩) y.ns y.ns, .slice (some ⟨b2, 0, none⟩) y.nl y.nl, .slice (some ⟨b3, 0, none⟩) y.nf y.nf, .slice (some ⟨b4, 0, none⟩) y.no y.no, .slice (some ⟨b5, 0, none⟩) y.nm y.nm]) ∧ WyOwn w.heap.size w' y b1 b2 b3 b4 b5 ∧ Below w.heap.size w w' := by
 obtain ⟨s1, s2, s3, s4, s5⟩ := hs
 have H : Hid (WyIn 0 w y sa la fa oa ma) := h
 clear h
 go_enter Tryz.func72, Tryz.ntmps72
 go_wp2_with fail
 have A0 : Box (w.alloc (.cells #[.slice sa y.ns sc, .slice la y.nl lc, .slice fa y.nf fc, .slice oa y.no oc, .slice ma y.nm mc] 101)) w.heap.size 101 #[.slice sa y.ns sc, .slice la y.nl lc, .slice fa y.nf fc, .slice oa y.no oc, .slice ma y.nm mc] := Box.new w 101 _
 have R0 : Box ((w.alloc (.cells #[.slice sa y.ns sc, .slice la y.nl lc, .slice fa y.nf fc, .slice oa y.no oc, .slice ma y.nm mc] 101)).alloc (.cells #[.slice none 0 0, .slice none 0 0, .slice none 0 0, .slice none 0 0, .slice none 0 0] 96)) (w.heap.size + 1) 96 #[.slice none 0 0, .slice none 0 0, .slice none 0 0, .slice none 0 0, .slice none 0 0] := by have := Box.new (w.alloc (.cells #[.slice sa y.ns sc, .slice la y.nl lc, .slice fa y.nf fc, .slice oa y.no oc, .slice ma y.nm mc] 101)) 96 #[.slice none 0 0, .slice none 0 0, .slice none 0 0, .slice none 0 0, .slice none 0 0]; simpa using this
 have O1 : Box (((w.alloc (.cells #[.slice sa y.ns sc, .slice la y.nl lc, .slice fa y.nf fc, .slice oa y.no oc, .slice ma y.nm mc] 101)).alloc (.cells #[.slice none 0 0, .slice none 0 0, .slice none 0 0, .slice none 0 0, .slice none 0 0] 96)).alloc (.cells #[.slice none 0 0, .slice none 0 0, .slice none 0 0, .slice none 0 0, .slice none 0 0] 96)) (w.heap.size + 1 + 1) 96 #[.slice none 0 0, .slice none 0 0, .slice none 0 0, .slice none 0 0, .slice none 0 0] := by have := Box.new ((w.alloc (.cells #[.slice sa y.ns sc, .slice la y.nl lc, .slice fa y.nf fc, .slice oa y.no oc, .slice ma y.nm mc] 101)).alloc (.cells #[.slice none 0 0, .slice none 0 0, .slice none 0 0, .slice none 0 0, .slice none 0 0] 96)) 96 #[.slice none 0 0, .slice none 0 0, .slice none 0 0, .slice none 0 0, .slice none 0 0]; simpa using this
 have A1 := (A0.alloc (.cells #[.slice none 0 0, .slice none 0 0, .slice none 0 0, .slice none 0 0, .slice none 0 0] 96)).alloc (.cells #[.slice none 0 0, .slice none 0 0, .slice none 0 0, .slice none 0 0, .slice none 0 0] 96)
 have R1 := R0.alloc (.cells #[.slice none 0 0, .slice none 0 0, .slice none 0 0, .slice none 0 0, .slice none 0 0] 96)
 have B1 : Below w.heap.size w (((w.alloc (.cells #[.slice sa y.ns sc, .slice la y.nl lc, .slice fa y.nf fc, .slice oa y.no oc, .slice ma y.nm mc] 101)).alloc (.cells #[.slice none 0 0, .slice none 0 0, .slice none 0 0, .slice none 0 0, .slice none 0 0] 96)).alloc (.cells #[.slice none 0 0, .slice none 0 0, .slice none 0 0, .slice none 0 0, .slice none 0 0] 96)) := bel3 w _ _ _
 clear A0 R0
 refine (toIntS sa y.ns sc y.S _ (by omega) (H.out.s.mono nr B1 nr)).mono ?_
 rintro e w1 ⟨b1, hb1, rfl, o1, hl1⟩
 have A11 := A1.mono hl1 nr
 have R11 := R1.mono hl1 nr
 have O11 := O1.mono hl1 nr
 have B11 := B1.trans (hl1.mono B1.size)
 have hk1 : w.heap.size + 1 + 1 < b1 := by rw [hb1]; simp
 have hz1 : b1 < w1.heap.size := (o1.lt rfl).2
 clear hl1 hb1 A1 R1 O1 B1
 have xa1 : w1.cell? ⟨w.heap.size, 1, none⟩ = some _ := A11.cell 1
 have xo1 := O11.cel 0
 have xf1 := O11.free 0
 have HH1 : Hid (Box w1 w.heap.size 101 _ ∧ Box w1 (w.heap.size + 1) 96 _ ∧ Box w1 (w.heap.size + 1 + 1) 96 _ ∧ Below w.heap.size w w1) := ⟨A11, R11, O11, B11⟩
 have P1_1 : Hid (VOwn b1 3 1 w1 (.slice (some ⟨b1, 0, none⟩) y.ns y.ns) y.ns (oneF y.S)) := o1
 clear A11 R11 O11 B11 o1
 go_wp2_with fail
 obtain ⟨A11, R11, O11, B11⟩ := HH1.out
 have A2 := A11.other (p := ⟨w.heap.size + 1 + 1, 0, none⟩) (by show w.heap.size ≠ w.heap.size + 1 + 1; omega) (.slice (some ⟨b1, 0, none⟩) y.ns y.ns)
 have R2 := R11.other (p := ⟨w.heap.size + 1 + 1, 0, none⟩) (by show w.heap.size + 1 ≠ w.heap.size + 1 + 1; omega) (.slice (some ⟨b1, 0, none⟩) y.ns y.ns)
 have O2 := O11.set 0 (.slice (some ⟨b1, 0, none⟩) y.ns y.ns)
 have B2 := B11.setCell (p := ⟨w.heap.size + 1 + 1, 0, none⟩) (by show w.heap.size ≤ w.heap.size + 1 + 1; omega) (.slice (some ⟨b1, 0, none⟩) y.ns y.ns)
 have o1 := P1_1.out.keep nr (fun g hg => Below.heap_setCell w1 ⟨w.heap.size + 1 + 1, 0, none⟩ (.slice (some ⟨b1, 0, none⟩) y.ns y.ns) g (by simp only [Value.ownBlock, Option.some.injEq] at hg; show g ≠ w.heap.size + 1 + 1; omega))
 clear HH1 A11 R11 O11 B11 xa1 xo1 xf1 P1_1
 refine (toTurnS la y.nl lc y.L _ (by omega) (H.out.l.mono nr B2 nr)).mono ?_
 rintro e w2 ⟨b2, hb2, rfl, o2, hl2⟩
 have A12 := A2.mono hl2 nr
 have R12 := R2.mono hl2 nr
 have O12 := O2.mono hl2 nr
 have B12 := B2.trans (hl2.mono B2.size)
 have o1 := o1.mono nr hl2 nr
 have hk2 : b1 < b2 := by rw [hb2, size_setc]; exact hz1
 have hz2 : b2 < w2.heap.size := (o2.lt rfl).2
 clear hl2 hb2 A2 R2 O2 B2 hz1
 have xa2 : w2.cell? ⟨w.heap.size, 2, none⟩ = some _ := A12.cell 2
 have xo2 := O12.cel 1
 have xf2 := O12.free 1
 have HH2 : Hid (Box w2 w.heap.size 101 _ ∧ Box w2 (w.heap.size + 1) 96 _ ∧ Box w2 (w.heap.size + 1 + 1) 96 _ ∧ Below w.heap.size w w2) := ⟨A12, R12, O12, B12⟩
 have P2_1 : Hid (VOwn b1 3 1 w2 (.slice (some ⟨b1, 0, none⟩) y.ns y.ns) y.ns (oneF y.S)) := o1
 have P2_2 : Hid (VOwn b2 133 2 w2 (.slice (some ⟨b2, 0, none⟩) y.nl y.nl) y.nl (intF y.L)) := o2
 clear A12 R12 O12 B12 o1 o2
 go_wp2_with fail
 obtain ⟨A12, R12, O12, B12⟩ := HH2.out
 have A3 := A12.other (p := ⟨w.heap.size + 1 + 1, 1, none⟩) (by show w.heap.size ≠ w.heap.size + 1 + 1; omega) (.slice (some ⟨b2, 0, none⟩) y.nl y.nl)
 have R3 := R12.other (p := ⟨w.heap.size + 1 + 1, 1, none⟩) (by show w.heap.size + 1 ≠ w.heap.size + 1 + 1; omega) (.slice (some ⟨b2, 0, none⟩) y.nl y.nl)
 have O3 := O12.set 1 (.slice (some ⟨b2, 0, none⟩) y.nl y.nl)
 have B3 := B12.setCell (p := ⟨w.heap.size + 1 + 1, 1, none⟩) (by show w.heap.size ≤ w.heap.size + 1 + 1; omega) (.slice (some ⟨b2, 0, none⟩) y.nl y.nl)
 have o1 := P2_1.out.keep nr (fun g hg => Below.heap_setCell w2 ⟨w.heap.size + 1 + 1, 1, none⟩ (.slice (some ⟨b2, 0, none⟩) y.nl y.nl) g (by simp only [Value.ownBlock, Option.some.injEq] at hg; show g ≠ w.heap.size + 1 + 1; omega))
 have o2 := P2_2.out.keep nr (fun g hg => Below.heap_setCell w2 ⟨w.heap.size + 1 + 1, 1, none⟩ (.slice (some ⟨b2, 0, none⟩) y.nl y.nl) g (by simp only [Value.ownBlock, Option.some.injEq] at hg; show g ≠ w.heap.size + 1 + 1; omega))
 clear HH2 A12 R12 O12 B12 xa2 xo2 xf2 P2_1 P2_2
 refine (toTurnS fa y.nf fc y.F _ (by omega) (H.out.f.mono nr B3 nr)).mono ?_
 rintro e w3 ⟨b3, hb3, rfl, o3, hl3⟩
 have A13 := A3.mono hl3 nr
 have R13 := R3.mono hl3 nr
 have O13 := O3.mono hl3 nr
 have B13 := B3.trans (hl3.mono B3.size)
 have o1 := o1.mono nr hl3 nr
 have o2 := o2.mono nr hl3 nr
 have hk3 : b2 < b3 := by rw [hb3, size_setc]; exact hz2
 have hz3 : b3 < w3.heap.size := (o3.lt rfl).2
 clear hl3 hb3 A3 R3 O3 B3 hz2
 have xa3 : w3.cell? ⟨w.heap.size, 3, none⟩ = some _ := A13.cell 3
 have xo3 := O13.cel 2
 have xf3 := O13.free 2
 have HH3 : Hid (Box w3 w.heap.size 101 _ ∧ Box w3 (w.heap.size + 1) 96 _ ∧ Box w3 (w.heap.size + 1 + 1) 96 _ ∧ Below w.heap.size w w3) := ⟨A13, R13, O13, B13⟩
 have P3_1 : Hid (VOwn b1 3 1 w3 (.slice (some ⟨b1, 0, none⟩) y.ns y.ns) y.ns (oneF y.S)) := o1
 have P3_2 : Hid (VOwn b2 133 2 w3 (.slice (some ⟨b2, 0, none⟩) y.nl y.nl) y.nl (intF y.L)) := o2
 have P3_3 : Hid (VOwn b3 133 2 w3 (.slice (some ⟨b3, 0, none⟩) y.nf y.nf) y.nf (intF y.F)) := o3
 clear A13 R13 O13 B13 o1 o2 o3
 go_wp2_with fail
 obtain ⟨A13, R13, O13, B13⟩ := HH3.out
 have A4 := A13.other (p := ⟨w.heap.size + 1 + 1, 2, none⟩) (by show w.heap.size ≠ w.heap.size + 1 + 1; omega) (.slice (some ⟨b3, 0, none⟩) y.nf y.nf)
 have R4 := R13.other (p := ⟨w.heap.size + 1 + 1, 2, none⟩) (by show w.heap.size + 1 ≠ w.heap.size + 1 + 1; omega) (.slice (some ⟨b3, 0, none⟩) y.nf y.nf)
 have O4 := O13.set 2 (.slice (some ⟨b3, 0, none⟩) y.nf y.nf)
 have B4 := B13.setCell (p := ⟨w.heap.size + 1 + 1, 2, none⟩) (by show w.heap.size ≤ w.heap.size + 1 + 1; omega) (.slice (some ⟨b3, 0, none⟩) y.nf y.nf)
 have o1 := P3_1.out.keep nr (fun g hg => Below.heap_setCell w3 ⟨w.heap.size + 1 + 1, 2, none⟩ (.slice (some ⟨b3, 0, none⟩) y.nf y.nf) g (by simp only [Value.ownBlock, Option.some.injEq] at hg; show g ≠ w.heap.size + 1 + 1; omega))
 have o2 := P3_2.out.keep nr (fun g hg => Below.heap_setCell w3 ⟨w.heap.size + 1 + 1, 2, none⟩ (.slice (some ⟨b3, 0, none⟩) y.nf y.nf) g (by simp only [Value.ownBlock, Option.some.injEq] at hg; show g ≠ w.heap.size + 1 + 1; omega))
 have o3 := P3_3.out.keep nr (fun g hg => Below.heap_setCell w3 ⟨w.heap.size + 1 + 1, 2, none⟩ (.slice (some ⟨b3, 0, none⟩) y.nf y.nf) g (by simp only [Value.ownBlock, Option.some.injEq] at hg; show g ≠ w.heap.size + 1 + 1; omega))
 clear HH3 A13 R13 O13 B13 xa3 xo3 xf3 P3_1 P3_2 P3_3
 refine (toIntS oa y.no oc y.O _ (by omega) (H.out.o.mono nr B4 nr)).mono ?_
 rintro e w4 ⟨b4, hb4, rfl, o4, hl4⟩
 have A14 := A4.mono hl4 nr
 have R14 := R4.mono hl4 nr
 have O14 := O4.mono hl4 nr
 have B14 := B4.trans (hl4.mono B4.size)
 have o1 := o1.mono nr hl4 nr
 have o2 := o2.mono nr hl4 nr
 have o3 := o3.mono nr hl4 nr
 have hk4 : b3 < b4 := by rw [hb4, size_setc]; exact hz3
 have hz4 : b4 < w4.heap.size := (o4.lt rfl).2
 clear hl4 hb4 A4 R4 O4 B4 hz3
 have xa4 : w4.cell? ⟨w.heap.size, 4, none⟩ = some _ := A14.cell 4
 have xo4 := O14.cel 3
 have xf4 := O14.free 3
 have HH4 : Hid (Box w4 w.heap.size 101 _ ∧ Box w4 (w.heap.size + 1) 96 _ ∧ Box w4 (w.heap.size + 1 + 1) 96 _ ∧ Below w.heap.size w w4) := ⟨A14, R14, O14, B14⟩
 have P4_1 : Hid (VOwn b1 3 1 w4 (.slice (some ⟨b1, 0, none⟩) y.ns y.ns) y.ns (oneF y.S)) := o1
 have P4_2 : Hid (VOwn b2 133 2 w4 (.slice (some ⟨b2, 0, none⟩) y.nl y.nl) y.nl (intF y.L)) := o2
 have P4_3 : Hid (VOwn b3 133 2 w4 (.slice (some ⟨b3, 0, none⟩) y.nf y.nf) y.nf (intF y.F)) := o3
 have P4_4 : Hid (VOwn b4 3 1 w4 (.slice (some ⟨b4, 0, none⟩) y.no y.no) y.no (oneF y.O)) := o4
 clear A14 R14 O14 B14 o1 o2 o3 o4
 go_wp2_with fail
 obtain ⟨A14, R14, O14, B14⟩ := HH4.out
 have A5 := A14.other (p := ⟨w.heap.size + 1 + 1, 3, none⟩) (by show w.heap.size ≠ w.heap.size + 1 + 1; omega) (.slice (some ⟨b4, 0, none⟩) y.no y.no)
 have R5 := R14.other (p := ⟨w.heap.size + 1 + 1, 3, none⟩) (by show w.heap.size + 1 ≠ w.heap.size + 1 + 1; omega) (.slice (some ⟨b4, 0, none⟩) y.no y.no)
 have O5 := O14.set 3 (.slice (some ⟨b4, 0, none⟩) y.no y.no)
 have B5 := B14.setCell (p := ⟨w.heap.size + 1 + 1, 3, none⟩) (by show w.heap.size ≤ w.heap.size + 1 + 1; omega) (.slice (some ⟨b4, 0, none⟩) y.no y.no)
 have o1 := P4_1.out.keep nr (fun g hg => Below.heap_setCell w4 ⟨w.heap.size + 1 + 1, 3, none⟩ (.slice (some ⟨b4, 0, none⟩) y.no y.no) g (by simp only [Value.ownBlock, Option.some.injEq] at hg; show g ≠ w.heap.size + 1 + 1; omega))
 have o2 := P4_2.out.keep nr (fun g hg => Below.heap_setCell w4 ⟨w.heap.size + 1 + 1, 3, none⟩ (.slice (some ⟨b4, 0, none⟩) y.no y.no) g (by simp only [Value.ownBlock, Option.some.injEq] at hg; show g ≠ w.heap.size + 1 + 1; omega))
 have o3 := P4_3.out.keep nr (fun g hg => Below.heap_setCell w4 ⟨w.heap.size + 1 + 1, 3, none⟩ (.slice (some ⟨b4, 0, none⟩) y.no y.no) g (by simp only [Value.ownBlock, Option.some.injEq] at hg; show g ≠ w.heap.size + 1 + 1; omega))
 have o4 := P4_4.out.keep nr (fun g hg => Below.heap_setCell w4 ⟨w.heap.size + 1 + 1, 3, none⟩ (.slice (some ⟨b4, 0, none⟩) y.no y.no) g (by simp only [Value.ownBlock, Option.some.injEq] at hg; show g ≠ w.heap.size + 1 + 1; omega))
 clear HH4 A14 R14 O14 B14 xa4 xo4 xf4 P4_1 P4_2 P4_3 P4_4
 refine (toIntS ma y.nm mc y.M _ (by omega) (H.out.m.mono nr B5 nr)).mono ?_
 rintro e w5 ⟨b5, hb5, rfl, o5, hl5⟩
 have A15 := A5.mono hl5 nr
 have R15 := R5.mono hl5 nr
 have O15 := O5.mono hl5 nr
 have B15 := B5.trans (hl5.mono B5.size)
 have o1 := o1.mono nr hl5 nr
 have o2 := o2.mono nr hl5 nr
 have o3 := o3.mono nr hl5 nr
 have o4 := o4.mono nr hl5 nr
 have hk5 : b4 < b5 := by rw [hb5, size_setc]; exact hz4
 have hz5 : b5 < w5.heap.size := (o5.lt rfl).2
 clear hl5 hb5 A5 R5 O5 B5 hz4
 have xo5 := O15.cel 4
 have xf5 := O15.free 4
 have HH5 : Hid (Box w5 w.heap.size 101 _ ∧ Box w5 (w.heap.size + 1) 96 _ ∧ Box w5 (w.heap.size + 1 + 1) 96 _ ∧ Below w.heap.size w w5) := ⟨A15, R15, O15, B15⟩
 have P5_1 : Hid (VOwn b1 3 1 w5 (.slice (some ⟨b1, 0, none⟩) y.ns y.ns) y.ns (oneF y.S)) := o1
 have P5_2 : Hid (VOwn b2 133 2 w5 (.slice (some ⟨b2, 0, none⟩) y.nl y.nl) y.nl (intF y.L)) := o2
 have P5_3 : Hid (VOwn b3 133 2 w5 (.slice (some ⟨b3, 0, none⟩) y.nf y.nf) y.nf (intF y.F)) := o3
 have P5_4 : Hid (VOwn b4 3 1 w5 (.slice (some ⟨b4, 0, none⟩) y.no y.no) y.no (oneF y.O)) := o4
 have P5_5 : Hid (VOwn b5 3 1 w5 (.slice (some ⟨b5, 0, none⟩) y.nm y.nm) y.nm (oneF y.M)) := o5
 have xo5a := O15.cel 0
 have xo5b := O15.cel 1
 have xo5c := O15.cel 2
 have xo5d := O15.cel 3
 have xr0 := R15.cel 0
 have xr1 := R15.cel 1
 have xr2 := R15.cel 2
 have xr3 := R15.cel 3
 have xr4 := R15.cel 4
 have xg0 := R15.free 0
 have xg1 := R15.free 1
 have xg2 := R15.free 2
 have xg3 := R15.free 3
 have xg4 := R15.free 4
 clear A15 R15 O15 B15 o1 o2 o3 o4 o5
 go_wp2_with fail
 refine bodyPost_ret (v := .agg #[.slice (some ⟨b1, 0, none⟩) y.ns y.ns, .slice (some ⟨b2, 0, none⟩) y.nl y.nl, .slice (some ⟨b3, 0, none⟩) y.nf y.nf, .slice (some ⟨b4, 0, none⟩) y.no y.no, .slice (some ⟨b5, 0, none⟩) y.nm y.nm]) (by simp [results, Tryz.results72, go_sem, xr0, xr1, xr2, xr3, xr4]) rfl ⟨b1, b2, b3, b4, b5, rfl, ?_, ?_⟩
 ·
  refine ⟨by omega, hk2, hk3, hk4, hk5, P5_1.out.keep nr (fun g hg => ?_), P5_2.out.keep nr (fun g hg => ?_), P5_3.out.keep nr (fun g hg => ?_), P5_4.out.keep nr (fun g hg => ?_), P5_5.out.keep nr (fun g hg => ?_)⟩
  all_goals
   simp only [Value.ownBlock, Option.some.injEq] at hg
   have h1 : g ≠ w.heap.size + 1 := by omega
   have h2 : g ≠ w.heap.size + 1 + 1 := by omega
   rw [Below.heap_setCell _ _ _ _ h1, Below.heap_setCell _ _ _ _ h1, Below.heap_setCell _ _ _ _ h1, Below.heap_setCell _ _ _ _ h1, Below.heap_setCell _ _ _ _ h1, Below.heap_setCell _ _ _ _ h2]
 ·
  obtain ⟨_, _, _, B15⟩ := HH5.out
  have h1 : w.heap.size ≤ w.heap.size + 1 := by omega
  have h2 : w.heap.size ≤ w.heap.size + 1 + 1 := by omega
  exact (((((B15.setCell h2 _).setCell h1 _).setCell h1 _).setCell h1 _).setCell h1 _).setCell h1 _
end Go.Proofs.YtlgapgajgpilgaaGreatDoor
