import Derived.Test.YtpghgdnhfhdgmaaTs
import Derived.Test.YtpghgdnhfhdgmaaEq
namespace Go.Proofs.Ytpghgdnhfhdgmaa
open Go.RowKit

/-- the routes from i on lie as they lay -/
def RsTail (w : World) (b n i : Nat) (R : Nat → Rt) (lo : Nat → Nat) : Prop :=
  ∃ vs : Array Value, Box w b 36 vs ∧ vs.size = n * 8 ∧ ∀ j, i ≤ j → j < n → ∃ b1 b2 b3 b4 b5 b6, RtRow w vs j (R j) (lo j) (lo (j + 1)) b1 b2 b3 b4 b5 b6
theorem Fr.cells {X : Nat → Prop} {w w' : World} {b : Nat} (h : Fr X w w') (hb : X b) (o : Nat) (v : Value) : Fr X w (w'.setCell ⟨b, o, none⟩ v) := ⟨h.os, h.tape, h.output, by rw [size_setc]; exact h.size, fun k hk hn => (Below.heap_setCell w' _ v k fun e => hn (by rw [e]; exact hb)).trans (h.block k hk hn)⟩

set_option maxRecDepth 100000 in
set_option maxHeartbeats 8000000 in
theorem markRouteS (b n : Nat) (R : Nat → Rt) (lo : Nat → Nat) (w : World) (hn : n ≤ 1048576) (hs : ∀ i, i < n → (R i).small) (h : RsOwn w b n n R lo) :
    Calls Try.prog 23 #[.slice (some ⟨b, 0, none⟩) n n, .int .i64 1] w fun e w' => ∃ k : Nat, e = .returned (.int .i64 (k : Int)) ∧ Fr (fun g => b ≤ g ∧ g < lo n) w w' := by
  have HS : Hid (∀ i, i < n → (R i).small) := hs
  obtain ⟨vs0, g1, g2, g3, g4, g5, g6⟩ := h
  have HT0 : Hid (RsTail w b n 0 R lo) := ⟨vs0, g1, g2, fun j _ hj => g6 j hj⟩
  have HLO : Hid (∀ i j, i ≤ j → j ≤ n → lo i ≤ lo j) := g5
  have hlon : lo 0 ≤ lo n := g5 0 n (Nat.zero_le _) (Nat.le_refl _)
  clear hs g1 g2 g4 g5 g6
  go_enter Try.func23, Try.ntmps23
  go_wp2_with fail
  go_loopw [1, 5] (fun m i wr => ∃ (q kk : Nat), q ≤ n ∧ i = .int .i64 q ∧ m = .int .i64 (kk : Int) ∧ kk ≤ 1 + q * 15728642 ∧ Hid (RsTail wr b n q R lo) ∧ Hid (Fr (fun g => b ≤ g ∧ g < lo n) w wr)) (fun _ i _ => n - (intOf i).toNat)
  case atStart => exact ⟨0, 1, Nat.zero_le _, rfl, rfl, by omega, HT0, Fr.refl _ _⟩
  case round =>
    obtain ⟨q, kk, hq, rfl, rfl, hkk, HT, HFr⟩ := hrel
    by_cases hlt : q < n
    · obtain ⟨vs, h1, h2, h3⟩ := HT.out
      obtain ⟨b1, b2, b3, b4, b5, b6, hr⟩ := h3 q (Nat.le_refl _) hlt
      have H3 : Hid (∀ j, q ≤ j → j < n → ∃ b1 b2 b3 b4 b5 b6, RtRow wr vs j (R j) (lo j) (lo (j + 1)) b1 b2 b3 b4 b5 b6) := h3
      obtain ⟨t1, t2, t3, t4, t5, t6⟩ := HS.out q hlt
      have l1 := HLO.out 0 q (Nat.zero_le _) (by omega)
      have l2 := HLO.out (q + 1) n (by omega) (Nat.le_refl _)
      have l3 := HLO.out q (q + 1) (by omega) (by omega)
      have x0 := (h1.cell (q * 8)).trans hr.c0
      have x1 := (h1.cell (q * 8 + 1)).trans hr.c1
      have x2 := (h1.cell (q * 8 + 2)).trans hr.c2
      have x3 := (h1.cell (q * 8 + 3)).trans hr.c3
      have x4 := (h1.cell (q * 8 + 4)).trans hr.c4
      have x5 := (h1.cell (q * 8 + 5)).trans hr.c5
      have x6 := (h1.cell (q * 8 + 6)).trans hr.c6
      have x7 := (h1.cell (q * 8 + 7)).trans hr.c7
      have f0 := h1.free (q * 8)
      have f1 := h1.free (q * 8 + 1)
      have hlt6 := hr.lt
      have hro : RtOwn (lo q) ((wr.setCell ⟨b, q * 8, none⟩ (.int .i64 (kk : Int))).setCell ⟨b, q * 8 + 1, none⟩ (.int .i64 ((kk : Int) + 1))) (R q) b1 b2 b3 b4 b5 b6 := hr.own.keep fun g z1 _ => by rw [Below.heap_setCell _ _ _ _ (show g ≠ b by omega), Below.heap_setCell _ _ _ _ (show g ≠ b by omega)]
      have hb0 := (h1.set (q * 8) (.int .i64 (kk : Int))).set (q * 8 + 1) (.int .i64 ((kk : Int) + 1))
      have HB0 : Hid (Box ((wr.setCell ⟨b, q * 8, none⟩ (.int .i64 (kk : Int))).setCell ⟨b, q * 8 + 1, none⟩ (.int .i64 ((kk : Int) + 1))) b 36 ((vs.setIfInBounds (q * 8) (.int .i64 (kk : Int))).setIfInBounds (q * 8 + 1) (.int .i64 ((kk : Int) + 1)))) := hb0
      have HF0 : Hid (Fr (fun g => b ≤ g ∧ g < lo n) w ((wr.setCell ⟨b, q * 8, none⟩ (.int .i64 (kk : Int))).setCell ⟨b, q * 8 + 1, none⟩ (.int .i64 ((kk : Int) + 1)))) := (HFr.out.cells ⟨Nat.le_refl _, by omega⟩ _ _).cells ⟨Nat.le_refl _, by omega⟩ _ _
      have HVS : Hid (vs.size = n * 8) := h2
      obtain ⟨c1, c2, c3, c4, c5, c6, o1, o2, o3, o4, o5, o6⟩ := hro
      have y2 : ((wr.setCell ⟨b, q * 8, none⟩ (.int .i64 (kk : Int))).setCell ⟨b, q * 8 + 1, none⟩ (.int .i64 ((kk : Int) + 1))).cell? ⟨b, q * 8 + 3, none⟩ = some (.slice (some ⟨b2, 0, none⟩) (R q).nl (R q).nl) := by rw [cset_ne _ _ _ _ _ _ (by omega), cset_ne _ _ _ _ _ _ (by omega)]; exact x3
      have y3 : ((wr.setCell ⟨b, q * 8, none⟩ (.int .i64 (kk : Int))).setCell ⟨b, q * 8 + 1, none⟩ (.int .i64 ((kk : Int) + 1))).cell? ⟨b, q * 8 + 4, none⟩ = some (.slice (some ⟨b3, 0, none⟩) (R q).nx (R q).nx) := by rw [cset_ne _ _ _ _ _ _ (by omega), cset_ne _ _ _ _ _ _ (by omega)]; exact x4
      have y4 : ((wr.setCell ⟨b, q * 8, none⟩ (.int .i64 (kk : Int))).setCell ⟨b, q * 8 + 1, none⟩ (.int .i64 ((kk : Int) + 1))).cell? ⟨b, q * 8 + 5, none⟩ = some (.slice (some ⟨b4, 0, none⟩) (R q).np (R q).np) := by rw [cset_ne _ _ _ _ _ _ (by omega), cset_ne _ _ _ _ _ _ (by omega)]; exact x5
      have y5 : ((wr.setCell ⟨b, q * 8, none⟩ (.int .i64 (kk : Int))).setCell ⟨b, q * 8 + 1, none⟩ (.int .i64 ((kk : Int) + 1))).cell? ⟨b, q * 8 + 6, none⟩ = some (.slice (some ⟨b5, 0, none⟩) (R q).no (R q).no) := by rw [cset_ne _ _ _ _ _ _ (by omega), cset_ne _ _ _ _ _ _ (by omega)]; exact x6
      have y6 : ((wr.setCell ⟨b, q * 8, none⟩ (.int .i64 (kk : Int))).setCell ⟨b, q * 8 + 1, none⟩ (.int .i64 ((kk : Int) + 1))).cell? ⟨b, q * 8 + 7, none⟩ = some (.slice (some ⟨b6, 0, none⟩) (R q).nf (R q).nf) := by rw [cset_ne _ _ _ _ _ _ (by omega), cset_ne _ _ _ _ _ _ (by omega)]; exact x7
      have Y : Hid (∀ j v, 2 ≤ j → j < 8 → vs[q * 8 + j]? = some v → ((wr.setCell ⟨b, q * 8, none⟩ (.int .i64 (kk : Int))).setCell ⟨b, q * 8 + 1, none⟩ (.int .i64 ((kk : Int) + 1))).cell? ⟨b, q * 8 + j, none⟩ = some v) := fun j v z1 z2 z3 => by rw [cset_ne _ _ _ _ _ _ (by omega), cset_ne _ _ _ _ _ _ (by omega)]; exact (h1.cell _).trans z3
      have P0_1 : Hid (Own b1 97 2 ((wr.setCell ⟨b, q * 8, none⟩ (.int .i64 (kk : Int))).setCell ⟨b, q * 8 + 1, none⟩ (.int .i64 ((kk : Int) + 1))) _ _) := o1
      have P0_2 : Hid (Own b2 62 2 ((wr.setCell ⟨b, q * 8, none⟩ (.int .i64 (kk : Int))).setCell ⟨b, q * 8 + 1, none⟩ (.int .i64 ((kk : Int) + 1))) _ _) := o2
      have P0_3 : Hid (Own b3 3 1 ((wr.setCell ⟨b, q * 8, none⟩ (.int .i64 (kk : Int))).setCell ⟨b, q * 8 + 1, none⟩ (.int .i64 ((kk : Int) + 1))) _ _) := o3
      have P0_4 : Hid (Own b4 103 3 ((wr.setCell ⟨b, q * 8, none⟩ (.int .i64 (kk : Int))).setCell ⟨b, q * 8 + 1, none⟩ (.int .i64 ((kk : Int) + 1))) _ _) := o4
      have P0_5 : Hid (Own b5 103 3 ((wr.setCell ⟨b, q * 8, none⟩ (.int .i64 (kk : Int))).setCell ⟨b, q * 8 + 1, none⟩ (.int .i64 ((kk : Int) + 1))) _ _) := o5
      have P0_6 : Hid (Own b6 64 4 ((wr.setCell ⟨b, q * 8, none⟩ (.int .i64 (kk : Int))).setCell ⟨b, q * 8 + 1, none⟩ (.int .i64 ((kk : Int) + 1))) _ _) := o6
      have HR : Hid (RtRow wr vs q (R q) (lo q) (lo (q + 1)) b1 b2 b3 b4 b5 b6) := hr
      clear h1 h2 h3 hr hb0 HT HFr o1 o2 o3 o4 o5 o6 y2 y3 y4 y5 y6
      go_wp2_with fail
      clear x0 x1 x2 x3 x4 x5 x6 x7 f0 f1
      obtain ⟨k0, hk0⟩ : ∃ k0 : Nat, k0 = kk + 2 := ⟨_, rfl⟩
      rw [show (kk : Int) + 1 + 1 = (k0 : Int) by omega]
      refine (markStepS52 (some ⟨b1, 0, none⟩) (R q).ns (R q).ns k0 b1 0 _ t1 (by omega) (fun _ => rfl) (by exact P0_1.out.mark)).mono ?_
      rintro e w1 ⟨he, hW1, _⟩
      generalize hk1 : k0 + (R q).ns * 2 = k1 at he
      subst he
      have HF1 : Hid (Fr (fun g => b ≤ g ∧ g < lo n) w w1) := HF0.out.trans (hW1.fr (X := fun g => b ≤ g ∧ g < lo n) ⟨by omega, by omega⟩)
      have HB1 : Hid (Box w1 b 36 _) := HB0.out.keep (hW1.other b (by omega))
      have P1_2 : Hid (Own b2 62 2 w1 _ _) := P0_2.out.within hW1 (by omega)
      have P1_3 : Hid (Own b3 3 1 w1 _ _) := P0_3.out.within hW1 (by omega)
      have P1_4 : Hid (Own b4 103 3 w1 _ _) := P0_4.out.within hW1 (by omega)
      have P1_5 : Hid (Own b5 103 3 w1 _ _) := P0_5.out.within hW1 (by omega)
      have P1_6 : Hid (Own b6 64 4 w1 _ _) := P0_6.out.within hW1 (by omega)
      have KK1 : Hid (∀ g, g ≠ b → lo (q + 1) ≤ g → w1.heap[g]? = wr.heap[g]?) := fun g z1 z2 => (hW1.other g (by omega)).trans (by rw [Below.heap_setCell _ _ _ _ z1, Below.heap_setCell _ _ _ _ z1])
      have x1 : w1.cell? ⟨b, q * 8 + 3, none⟩ = some (.slice (some ⟨b2, 0, none⟩) (R q).nl (R q).nl) := by
        rw [HB1.out.cell, ← HB0.out.cell]
        exact Y.out 3 _ (by omega) (by omega) HR.out.c3
      clear hW1 HF0 P0_1 P0_2 P0_3 P0_4 P0_5 P0_6
      go_wp2_with fail
      clear x1
      refine (markLieS53 (some ⟨b2, 0, none⟩) (R q).nl (R q).nl k1 b2 0 _ t2 (by omega) (fun _ => rfl) (by exact P1_2.out.mark)).mono ?_
      rintro e w2 ⟨he, hW2, _⟩
      generalize hk2 : k1 + (R q).nl * 2 = k2 at he
      subst he
      have HF2 : Hid (Fr (fun g => b ≤ g ∧ g < lo n) w w2) := HF1.out.trans (hW2.fr (X := fun g => b ≤ g ∧ g < lo n) ⟨by omega, by omega⟩)
      have HB2 : Hid (Box w2 b 36 _) := HB1.out.keep (hW2.other b (by omega))
      have P2_3 : Hid (Own b3 3 1 w2 _ _) := P1_3.out.within hW2 (by omega)
      have P2_4 : Hid (Own b4 103 3 w2 _ _) := P1_4.out.within hW2 (by omega)
      have P2_5 : Hid (Own b5 103 3 w2 _ _) := P1_5.out.within hW2 (by omega)
      have P2_6 : Hid (Own b6 64 4 w2 _ _) := P1_6.out.within hW2 (by omega)
      have KK2 : Hid (∀ g, g ≠ b → lo (q + 1) ≤ g → w2.heap[g]? = wr.heap[g]?) := fun g z1 z2 => (hW2.other g (by omega)).trans (KK1.out g z1 z2)
      have x2 : w2.cell? ⟨b, q * 8 + 4, none⟩ = some (.slice (some ⟨b3, 0, none⟩) (R q).nx (R q).nx) := by
        rw [HB2.out.cell, ← HB0.out.cell]
        exact Y.out 4 _ (by omega) (by omega) HR.out.c4
      clear hW2 HF1 P1_2 P1_3 P1_4 P1_5 P1_6 KK1
      go_wp2_with fail
      clear x2
      refine (markIntS54 (some ⟨b3, 0, none⟩) (R q).nx (R q).nx k2 b3 0 _ t3 (by omega) (fun _ => rfl) (by exact P2_3.out.mark)).mono ?_
      rintro e w3 ⟨he, hW3, _⟩
      generalize hk3 : k2 + (R q).nx * 1 = k3 at he
      subst he
      have HF3 : Hid (Fr (fun g => b ≤ g ∧ g < lo n) w w3) := HF2.out.trans (hW3.fr (X := fun g => b ≤ g ∧ g < lo n) ⟨by omega, by omega⟩)
      have HB3 : Hid (Box w3 b 36 _) := HB2.out.keep (hW3.other b (by omega))
      have P3_4 : Hid (Own b4 103 3 w3 _ _) := P2_4.out.within hW3 (by omega)
      have P3_5 : Hid (Own b5 103 3 w3 _ _) := P2_5.out.within hW3 (by omega)
      have P3_6 : Hid (Own b6 64 4 w3 _ _) := P2_6.out.within hW3 (by omega)
      have KK3 : Hid (∀ g, g ≠ b → lo (q + 1) ≤ g → w3.heap[g]? = wr.heap[g]?) := fun g z1 z2 => (hW3.other g (by omega)).trans (KK2.out g z1 z2)
      have x3 : w3.cell? ⟨b, q * 8 + 5, none⟩ = some (.slice (some ⟨b4, 0, none⟩) (R q).np (R q).np) := by
        rw [HB3.out.cell, ← HB0.out.cell]
        exact Y.out 5 _ (by omega) (by omega) HR.out.c5
      clear hW3 HF2 P2_3 P2_4 P2_5 P2_6 KK2
      go_wp2_with fail
      clear x3
      refine (markPartS55 (some ⟨b4, 0, none⟩) (R q).np (R q).np k3 b4 0 _ t4 (by omega) (fun _ => rfl) (by exact P3_4.out.mark)).mono ?_
      rintro e w4 ⟨he, hW4, _⟩
      generalize hk4 : k3 + (R q).np * 3 = k4 at he
      subst he
      have HF4 : Hid (Fr (fun g => b ≤ g ∧ g < lo n) w w4) := HF3.out.trans (hW4.fr (X := fun g => b ≤ g ∧ g < lo n) ⟨by omega, by omega⟩)
      have HB4 : Hid (Box w4 b 36 _) := HB3.out.keep (hW4.other b (by omega))
      have P4_5 : Hid (Own b5 103 3 w4 _ _) := P3_5.out.within hW4 (by omega)
      have P4_6 : Hid (Own b6 64 4 w4 _ _) := P3_6.out.within hW4 (by omega)
      have KK4 : Hid (∀ g, g ≠ b → lo (q + 1) ≤ g → w4.heap[g]? = wr.heap[g]?) := fun g z1 z2 => (hW4.other g (by omega)).trans (KK3.out g z1 z2)
      have x4 : w4.cell? ⟨b, q * 8 + 6, none⟩ = some (.slice (some ⟨b5, 0, none⟩) (R q).no (R q).no) := by
        rw [HB4.out.cell, ← HB0.out.cell]
        exact Y.out 6 _ (by omega) (by omega) HR.out.c6
      clear hW4 HF3 P3_4 P3_5 P3_6 KK3
      go_wp2_with fail
      clear x4
      refine (markPartS55 (some ⟨b5, 0, none⟩) (R q).no (R q).no k4 b5 0 _ t5 (by omega) (fun _ => rfl) (by exact P4_5.out.mark)).mono ?_
      rintro e w5 ⟨he, hW5, _⟩
      generalize hk5 : k4 + (R q).no * 3 = k5 at he
      subst he
      have HF5 : Hid (Fr (fun g => b ≤ g ∧ g < lo n) w w5) := HF4.out.trans (hW5.fr (X := fun g => b ≤ g ∧ g < lo n) ⟨by omega, by omega⟩)
      have HB5 : Hid (Box w5 b 36 _) := HB4.out.keep (hW5.other b (by omega))
      have P5_6 : Hid (Own b6 64 4 w5 _ _) := P4_6.out.within hW5 (by omega)
      have KK5 : Hid (∀ g, g ≠ b → lo (q + 1) ≤ g → w5.heap[g]? = wr.heap[g]?) := fun g z1 z2 => (hW5.other g (by omega)).trans (KK4.out g z1 z2)
      have x5 : w5.cell? ⟨b, q * 8 + 7, none⟩ = some (.slice (some ⟨b6, 0, none⟩) (R q).nf (R q).nf) := by
        rw [HB5.out.cell, ← HB0.out.cell]
        exact Y.out 7 _ (by omega) (by omega) HR.out.c7
      clear hW5 HF4 P4_5 P4_6 KK4
      go_wp2_with fail
      clear x5
      refine (markFlankS56 (some ⟨b6, 0, none⟩) (R q).nf (R q).nf k5 b6 0 _ t6 (by omega) (fun _ => rfl) (by exact P5_6.out.mark)).mono ?_
      rintro e w6 ⟨he, hW6, _⟩
      generalize hk6 : k5 + (R q).nf * 4 = k6 at he
      subst he
      have HF6 : Hid (Fr (fun g => b ≤ g ∧ g < lo n) w w6) := HF5.out.trans (hW6.fr (X := fun g => b ≤ g ∧ g < lo n) ⟨by omega, by omega⟩)
      have HB6 : Hid (Box w6 b 36 _) := HB5.out.keep (hW6.other b (by omega))
      have KK6 : Hid (∀ g, g ≠ b → lo (q + 1) ≤ g → w6.heap[g]? = wr.heap[g]?) := fun g z1 z2 => (hW6.other g (by omega)).trans (KK5.out g z1 z2)
      clear hW6 HF5 P5_6 KK5
      go_wp2_with fail
      go_roundw
      case rel =>
        refine ⟨q + 1, k6, by omega, by go_num, rfl, by omega, ⟨_, HB6.out, by simp only [Array.size_setIfInBounds]; exact HVS.out, fun j hj1 hj2 => ?_⟩, HF6⟩
        obtain ⟨e1, e2, e3, e4, e5, e6, hr⟩ := H3.out j (by omega) hj2
        have lj := HLO.out (q + 1) j hj1 (by omega)
        have ev : ∀ p, q * 8 + 2 ≤ p → ((vs.setIfInBounds (q * 8) (.int .i64 (kk : Int))).setIfInBounds (q * 8 + 1) (.int .i64 ((kk : Int) + 1)))[p]? = vs[p]? := fun p hp => by
          simp only [Array.getElem?_setIfInBounds, show ¬ q * 8 = p by omega, show ¬ q * 8 + 1 = p by omega, if_false]
        exact ⟨e1, e2, e3, e4, e5, e6, (ev _ (by omega)).trans hr.c0, (ev _ (by omega)).trans hr.c1, (ev _ (by omega)).trans hr.c2, (ev _ (by omega)).trans hr.c3, (ev _ (by omega)).trans hr.c4, (ev _ (by omega)).trans hr.c5, (ev _ (by omega)).trans hr.c6, (ev _ (by omega)).trans hr.c7, hr.own.keep fun g z1 _ => KK6.out g (by omega) (by omega), hr.lt⟩
      case measure => simp [intOf]; omega
    · obtain rfl : q = n := by omega
      go_wp2_with fail
      go_ret
      exact ⟨kk, rfl, HFr.out⟩

/-- rows of numbers -/
def SsAt (C : Nat) (w : World) (a : Option Addr) (n : Nat) (L : Nat → Nat) (T : Nat → Nat → Int) : Prop :=
  0 < n → ∃ b off, a = some ⟨b, off, none⟩ ∧ C ≤ b ∧ b < w.heap.size ∧ ∀ i, i < n → ∃ ra rc, w.cell? ⟨b, off + i, none⟩ = some (.slice ra (L i) rc) ∧ NsAt 1 C w ra (L i) (fun q _ => T i q)
theorem SsAt.mono {C C' : Nat} {w w' : World} {a : Option Addr} {n : Nat} {L : Nat → Nat} {T : Nat → Nat → Int} {B : Nat} (h : SsAt C w a n L T) (hC : C' ≤ C) (hb : Below B w w') (hB : w.heap.size ≤ B) : SsAt C' w' a n L T := by
  intro h0
  obtain ⟨b, off, h1, h2, h3, h4⟩ := h h0
  refine ⟨b, off, h1, by omega, Nat.lt_of_lt_of_le h3 hb.size, fun i hi => ?_⟩
  obtain ⟨ra, rc, h5, h6⟩ := h4 i hi
  exact ⟨ra, rc, (hb.cell (p := ⟨b, off + i, none⟩) (by show b < B; omega)).trans h5, h6.mono hC hb hB⟩

set_option maxRecDepth 100000 in
set_option maxHeartbeats 2000000 in
theorem eqIntSS (a a' : Option Addr) (n cap cap' : Nat) (L : Nat → Nat) (T : Nat → Nat → Int) (w : World) (hn : n ≤ 1048576) (hL : ∀ i, i < n → L i ≤ 1048576) (hR : SsAt 0 w a n L T) (hR' : SsAt 0 w a' n L T) :
    Calls Try.prog 21 #[.slice a n cap, .slice a' n cap'] w fun e w' => e = .returned (.bool true) ∧ Below w.heap.size w w' := by
  have HL : Hid (∀ i, i < n → L i ≤ 1048576) := hL
  clear hL
  go_enter Try.func21, Try.ntmps21
  go_wp2_with fail
  go_loopw [5] (fun i wr => ∃ (k : Nat), k ≤ n ∧ i = .int .i64 k ∧ Below w.heap.size w wr) (fun i _ => n - (intOf i).toNat)
  case atStart => exact ⟨0, Nat.zero_le _, rfl, Below.refl _ _⟩
  case round =>
    obtain ⟨k, hk, rfl, hbel⟩ := hrel
    by_cases hlt : k < n
    · obtain ⟨b, off, rfl, _, hb, hc⟩ := (hR.mono (Nat.le_refl _) hbel.drew (Nat.le_refl _)) (by omega)
      obtain ⟨b', off', rfl, _, hb', hc'⟩ := (hR'.mono (Nat.le_refl _) hbel.drew (Nat.le_refl _)) (by omega)
      obtain ⟨ra, rc, c0, g⟩ := hc k hlt
      obtain ⟨ra', rc', d0, g'⟩ := hc' k hlt
      have hlt' : (k : Int) < (n : Int) := by omega
      have hk0 : (0 : Int) ≤ (k : Int) := by omega
      have G : Hid (NsAt 1 0 wr.drew ra (L k) (fun q _ => T k q)) := g
      have G' : Hid (NsAt 1 0 wr.drew ra' (L k) (fun q _ => T k q)) := g'
      have c00 : wr.cell? _ = _ := c0
      have d00 : wr.cell? _ = _ := d0
      clear hc hc' g g' c0 d0
      go_wp2_with fail
      go_region_with (go_at_call 39; refine (eqIntS84 ra ra' (L k) rc rc' (fun q _ => T k q) _ (HL.out k hlt) G.out G'.out).mono ?_; rintro e w1 ⟨rfl, hb1⟩)
      all_goals
        go_wp2_with fail
        go_roundw
        case rel => exact ⟨k + 1, by omega, by go_num, hbel.drew.trans (hb1.mono hbel.drew.size)⟩
        case measure => simp [intOf]; omega
    · go_wp2
      go_ret
      exact ⟨rfl, hbel⟩

/-- rows of numbers of one's own: each in a block of its own, the blocks in a row -/
def SsOwn (C : Nat) (w : World) (a : Option Addr) (n m : Nat) (T : Nat → Nat → Int) (r : Nat → Nat) : Prop :=
  0 < n → ∃ b, a = some ⟨b, 0, none⟩ ∧ C ≤ b ∧ b < w.heap.size ∧ ∀ i, i < n → w.cell? ⟨b, i, none⟩ = some (.slice (some ⟨r i, 0, none⟩) m m) ∧ Own (r i) 3 1 w (.slice (some ⟨r i, 0, none⟩) m m) (lsF 1 m (fun q _ => T i q)) ∧ b < r i ∧ ∀ j, j < i → r j < r i
theorem SsOwn.mono {C : Nat} {w w' : World} {a : Option Addr} {n m : Nat} {T : Nat → Nat → Int} {r : Nat → Nat} {B : Nat} (h : SsOwn C w a n m T r) (hb : Below B w w') (hB : w.heap.size ≤ B) : SsOwn C w' a n m T r := by
  intro h0
  obtain ⟨b, h1, h2, h3, h4⟩ := h h0
  refine ⟨b, h1, h2, Nat.lt_of_lt_of_le h3 hb.size, fun i hi => ?_⟩
  obtain ⟨h5, h6, h7, h8⟩ := h4 i hi
  exact ⟨(hb.cell (p := ⟨b, i, none⟩) (by show b < B; omega)).trans h5, h6.mono (Nat.le_refl _) hb hB, h7, h8⟩
theorem SsOwn.fr {C : Nat} {w w' : World} {a : Option Addr} {n m : Nat} {T : Nat → Nat → Int} {r : Nat → Nat} {X : Nat → Prop} (h : SsOwn C w a n m T r) (hf : Fr X w w') (hx : ∀ g, C ≤ g → ¬ X g) : SsOwn C w' a n m T r := by
  intro h0
  obtain ⟨b, h1, h2, h3, h4⟩ := h h0
  refine ⟨b, h1, h2, Nat.lt_of_lt_of_le h3 hf.size, fun i hi => ?_⟩
  obtain ⟨h5, h6, h7, h8⟩ := h4 i hi
  exact ⟨(World.cell?_of_block (w := w) (hf.block b h3 (hx b h2))).trans h5, h6.keep (Nat.le_refl _) fun g hg => hf.block g (h6.lt hg).2 (hx g (by have := (h6.lt hg).1; omega)), h7, h8⟩
theorem SsOwn.at {C C' : Nat} {w : World} {a : Option Addr} {n m : Nat} {T : Nat → Nat → Int} {r : Nat → Nat} (h : SsOwn C w a n m T r) (hC : C' ≤ C) : SsAt C' w a n (fun _ => m) T := by
  intro h0
  obtain ⟨b, h1, h2, h3, h4⟩ := h h0
  refine ⟨b, 0, h1, by omega, h3, fun i hi => ?_⟩
  obtain ⟨h5, h6, h7, h8⟩ := h4 i hi
  exact ⟨_, _, by rw [Nat.zero_add]; exact h5, h6.ns.le (by omega)⟩

/-- the rows bear their marks -/
def SsMark (w : World) (a : Option Addr) (n m : Nat) (r : Nat → Nat) : Prop :=
  0 < n → ∃ b, a = some ⟨b, 0, none⟩ ∧ b < w.heap.size ∧ ∀ i, i < n → w.cell? ⟨b, i, none⟩ = some (.slice (some ⟨r i, 0, none⟩) m m) ∧ r i < w.heap.size ∧ ∀ q, q < m → ∀ j, j < 1 → w.cell? ⟨r i, 0 + q * 1 + j, none⟩ = some (.int .i64 ((1 + i * m + q * 1 + j : Nat) : Int))
theorem SsMark.mono {w w' : World} {a : Option Addr} {n m : Nat} {r : Nat → Nat} {B : Nat} (h : SsMark w a n m r) (hb : Below B w w') (hB : w.heap.size ≤ B) : SsMark w' a n m r := by
  intro h0
  obtain ⟨b, h1, h2, h3⟩ := h h0
  refine ⟨b, h1, Nat.lt_of_lt_of_le h2 hb.size, fun i hi => ?_⟩
  obtain ⟨h5, h6, h7⟩ := h3 i hi
  exact ⟨(hb.cell (p := ⟨b, i, none⟩) (by show b < B; omega)).trans h5, Nat.lt_of_lt_of_le h6 hb.size, fun q hq j hj => (hb.cell (p := ⟨r i, 0 + q * 1 + j, none⟩) (by show r i < B; omega)).trans (h7 q hq j hj)⟩

set_option maxRecDepth 100000 in
set_option maxHeartbeats 4000000 in
theorem markIntSS (a : Option Addr) (n m cap C : Nat) (T : Nat → Nat → Int) (r : Nat → Nat) (w : World) (hn : n ≤ 300) (hm : m ≤ 300) (h : SsOwn C w a n m T r) :
    Calls Try.prog 24 #[.slice a n cap, .int .i64 1] w fun e w' => e = .returned (.int .i64 ((1 + n * m : Nat) : Int)) ∧ SsMark w' a n m r ∧ Below C w w' ∧ w'.heap.size = w.heap.size := by
  have H : Hid (SsOwn C w a n m T r) := h
  clear h
  go_enter Try.func24, Try.ntmps24
  go_wp2_with fail
  go_loopw [1, 5] (fun k i wr => ∃ (q kk : Nat), q ≤ n ∧ i = .int .i64 q ∧ k = .int .i64 (kk : Int) ∧ Hid (kk = 1 + q * m) ∧ kk ≤ 1 + q * 300 ∧ Hid (∀ g, (0 < n → ∀ i, i < q → g ≠ r i) → wr.heap[g]? = w.heap[g]?) ∧ Hid (∀ i, i < q → ∀ p, p < m → ∀ j, j < 1 → wr.cell? ⟨r i, 0 + p * 1 + j, none⟩ = some (.int .i64 ((1 + i * m + p * 1 + j : Nat) : Int))) ∧ wr.heap.size = w.heap.size ∧ Below C w wr) (fun _ i _ => n - (intOf i).toNat)
  case atStart => exact ⟨0, 1, Nat.zero_le _, rfl, rfl, (by show _ = _; omega), by omega, fun _ _ => rfl, fun i hi => absurd hi (Nat.not_lt_zero _), rfl, Below.refl _ _⟩
  case round =>
    obtain ⟨q, kk, hq, rfl, rfl, HK, hkk, HO, HM, hsz, hbel⟩ := hrel
    by_cases hlt : q < n
    · obtain ⟨b, rfl, hb1, hb2, hb3⟩ := H.out (by omega)
      obtain ⟨d0, d1, d2, d3⟩ := hb3 q hlt
      have HB3 : Hid (∀ i, i < n → b < r i ∧ ∀ j, j < i → r j < r i) := fun i hi => (hb3 i hi).2.2
      have HB4 : Hid (∀ i, i < q → r i < r q) := fun i hi => (hb3 q hlt).2.2.2 i hi
      have o1 : Own (r q) 3 1 wr (.slice (some ⟨r q, 0, none⟩) m m) (lsF 1 m (fun p _ => T q p)) := d1.keep (Nat.le_refl _) fun g hg => HO.out g fun _ i hi => by
        simp only [Value.ownBlock, Option.some.injEq] at hg
        have := d3 i hi
        omega
      have x0 : wr.cell? ⟨b, q, none⟩ = some (.slice (some ⟨r q, 0, none⟩) m m) := (World.cell?_of_block (w := w) (HO.out b fun _ i hi => by have := (hb3 i (by omega)).2.2.1; omega)).trans d0
      have HO1 : Hid (Own (r q) 3 1 wr (.slice (some ⟨r q, 0, none⟩) m m) (lsF 1 m (fun p _ => T q p))) := o1
      have hlt' : (q : Int) < (n : Int) := by omega
      have hCr : C ≤ r q := by omega
      clear hb3 d0 d1 o1 d3
      go_wp2_with fail
      refine (markIntS54 (some ⟨r q, 0, none⟩) m m kk (r q) 0 _ (by omega) (by omega) (fun _ => rfl) (by exact HO1.out.mark)).mono ?_
      rintro e w1 ⟨he, hW, hmk⟩
      generalize hk1 : kk + m * 1 = k1 at he
      subst he
      have HMK : Hid (∀ i, i < m → ∀ j, j < 1 → w1.cell? ⟨r q, 0 + i * 1 + j, none⟩ = some (.int .i64 ((kk + i * 1 + j : Nat) : Int))) := hmk
      have HW : Hid (Within (r q) 0 (0 + m * 1) wr w1) := hW
      have hsz1 : w1.heap.size = w.heap.size := hW.size.trans hsz
      clear hmk hW x0
      go_wp2_with fail
      go_roundw
      case rel =>
        refine ⟨q + 1, k1, by omega, by go_num, rfl, ?_, by omega, ?_, ?_, hsz1, hbel.trans (HW.out.below.mono hCr)⟩
        · show k1 = 1 + (q + 1) * m
          rw [← hk1, HK.out, Nat.succ_mul]
          omega
        · intro g hg
          exact (HW.out.other g (hg (by omega) q (by omega))).trans (HO.out g fun h0 i hi => hg h0 i (by omega))
        · intro i hi p hp j hj
          by_cases e : i = q
          · subst e
            rw [HMK.out p hp j hj, HK.out]
          · have hne : r i ≠ r q := by have := HB4.out i (by omega); omega
            rw [show w1.cell? ⟨r i, 0 + p * 1 + j, none⟩ = wr.cell? ⟨r i, 0 + p * 1 + j, none⟩ from World.cell?_of_block (w := wr) (HW.out.other (r i) hne)]
            exact HM.out i (by omega) p hp j hj
      case measure => simp [intOf]; omega
    · obtain rfl : q = n := by omega
      have hv : (kk : Int) = ((1 + q * m : Nat) : Int) := by rw [HK.out]
      go_wp2_with fail
      rw [hv]
      go_ret
      refine ⟨rfl, fun h0 => ?_, hbel, hsz⟩
      obtain ⟨b, h1, hb1, hb2, hb3⟩ := H.out h0
      refine ⟨b, h1, by omega, fun i hi => ?_⟩
      obtain ⟨d0, d1, d2, d3⟩ := hb3 i hi
      exact ⟨(World.cell?_of_block (w := w) (HO.out b fun _ j hj => by have := (hb3 j hj).2.2.1; omega)).trans d0, by have := d1.lt0; omega, HM.out i hi⟩

set_option maxRecDepth 100000 in
set_option maxHeartbeats 4000000 in
theorem heldIntSS (a : Option Addr) (n m cap : Nat) (r : Nat → Nat) (w : World) (hn : n ≤ 300) (hm : m ≤ 300) (h : SsMark w a n m r) :
    Calls Try.prog 25 #[.slice a n cap, .int .i64 1] w fun e w' => e = .returned (.int .i64 ((1 + n * m : Nat) : Int)) ∧ w' = w := by
  have H : Hid (SsMark w a n m r) := h
  clear h
  go_enter Try.func25, Try.ntmps25
  go_wp2_with fail
  go_loop [1, 5] (fun k i => ∃ (q kk : Nat), q ≤ n ∧ i = .int .i64 q ∧ k = .int .i64 (kk : Int) ∧ Hid (kk = 1 + q * m) ∧ kk ≤ 1 + q * 300) (fun _ i => n - (intOf i).toNat)
  case atStart => exact ⟨0, 1, Nat.zero_le _, rfl, rfl, (by show _ = _; omega), by omega⟩
  case round =>
    obtain ⟨q, kk, hq, rfl, rfl, HK, hkk⟩ := hrel
    by_cases hlt : q < n
    · obtain ⟨b, rfl, hb1, hb2⟩ := H.out (by omega)
      obtain ⟨d0, d1, d2⟩ := hb2 q hlt
      have HD : Hid (∀ i, i < m → ∀ j, j < 1 → w.cell? ⟨r q, 0 + i * 1 + j, none⟩ = some (.int .i64 ((kk + i * 1 + j : Nat) : Int))) := fun i hi j hj => by rw [d2 i hi j hj, HK.out]
      clear hb2 d2
      go_wp2_with fail
      refine (heldIntS59 (some ⟨r q, 0, none⟩) m m kk (r q) 0 _ (by omega) (by omega) (fun _ => rfl) HD.out).mono ?_
      rintro e w1 ⟨he, rfl⟩
      generalize hk1 : kk + m * 1 = k1 at he
      subst he
      have hk9 : (0 : Int) ≤ (k1 : Int) := by omega
      clear d0
      go_wp2_with fail
      go_round
      case rel =>
        refine ⟨q + 1, k1, by omega, by go_num, rfl, ?_, by omega⟩
        show k1 = 1 + (q + 1) * m
        rw [← hk1, HK.out, Nat.succ_mul]
        omega
      case measure => simp [intOf]; omega
    · obtain rfl : q = n := by omega
      have HV : Hid ((kk : Int) = 1 + (q : Int) * (m : Int)) := by
        have h9 := HK.out
        show _ = _
        rw [h9]
        simp
      go_wp2_with fail
      go_ret
      exact ⟨by rw [← HV.out]; rfl, rfl⟩

end Go.Proofs.Ytpghgdnhfhdgmaa
