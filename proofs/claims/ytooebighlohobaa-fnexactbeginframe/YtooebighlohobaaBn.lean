import Derived.Test.YtooebighlohobaaBl
namespace Go.Proofs.Ytooebighlohobaa
open Go.RowKit

set_option maxRecDepth 100000 in
set_option maxHeartbeats 4000000 in
theorem held49 (a : Option Addr) (n c : Nat) (Y : Nat → Hl) (k : Nat) (w : World) (hn : n ≤ 1048576) (hk : k ≤ 100000000) (hL : ∀ i, i < n → (Y i).nb ≤ 1048576) (hQ : HsAt 0 w a n (mkY Y k)) :
    Calls Try.prog 49 #[.slice a n c, .int .i64 (k : Int)] w fun e w' => e = .returned (.int .i64 ((kAt Y k n : Nat) : Int)) ∧ w' = w := by
  have HQ : Hid (HsAt 0 w a n (mkY Y k)) := hQ
  have HL : Hid (∀ i, i < n → (Y i).nb ≤ 1048576) := hL
  clear hQ hL
  go_enter Try.func49, Try.ntmps49
  go_wp2_with fail
  go_loop [1, 5] (fun l i => ∃ q : Nat, q ≤ n ∧ i = .int .i64 (q : Int) ∧ l = .int .i64 ((kAt Y k q : Nat) : Int)) (fun _ i => n - (intOf i).toNat)
  case atStart => exact ⟨0, Nat.zero_le _, rfl, rfl⟩
  case round =>
    obtain ⟨q, hq, rfl, rfl⟩ := hrel
    by_cases hlt : q < n
    · obtain ⟨b, off, hr, _, hb, hc⟩ := HQ.out (by omega)
      subst hr
      obtain ⟨ra, rc, x0, x1, x2, x3, x4, hv⟩ := hc q hlt
      have hq0 : (0 : Int) ≤ (q : Int) := by omega
      have hqn : (q : Int) < (n : Int) := by omega
      have hkq := kAt_le Y k HL.out q (by omega)
      have hnb := HL.out q hlt
      obtain ⟨x, hx⟩ : ∃ x, Hid (kAt Y k q = x) := ⟨_, rfl⟩
      obtain ⟨m, hm⟩ : ∃ m, Hid ((Y q).nb = m) := ⟨_, rfl⟩
      simp only [mkY, mkH, hx.out, hm.out] at x0 x1 x2 x3 x4 hv
      rw [hx.out] at hkq
      rw [hm.out] at hnb
      rw [hx.out]
      have x3' : w.cell? ⟨b, off + q * 5 + 3, none⟩ = some (.bool (((x + 2 + m : Nat) : Int).tmod 3 == 0)) := x3
      have HV : Hid (VsAt 1 0 w ra m (boolF fun j => trM ((x + 2 + j : Nat) : Int))) := hv
      have HX : Hid (kAt Y k (q + 1) = x + 2 + m + 1 + 1) := by show kAt Y k q + 2 + (Y q).nb + 1 + 1 = _; rw [hx.out, hm.out]
      have HC : Hid (Calls Try.prog 47 #[.slice ra m rc, .int .i64 ((x + 2 : Nat) : Int)] w fun e w' => e = .returned (.int .i64 ((x + 2 + m : Nat) : Int)) ∧ w' = w) := held47 ra m rc (x + 2) w hnb (by omega) HV.out
      have hm0 : ¬ (((x + 2 + m : Nat) : Int) < 0) := by omega
      clear hc hv x3
      go_wp2_with fail
      refine HC.out.mono ?_
      rintro e w1 ⟨rfl, hw⟩
      have hw := hw.symm
      subst hw
      go_wp2_with fail
      go_round
      case rel => exact ⟨q + 1, by omega, by go_num, by rw [HX.out]; go_num⟩
      case measure => simp [intOf]; omega
    · have hge : ¬ ((q : Int) < (n : Int)) := by omega
      have hqn : q = n := by omega
      have HK : Hid (kAt Y k q = kAt Y k n) := congrArg (kAt Y k) hqn
      go_wp2_with fail
      go_ret
      exact ⟨by first | rfl | (rw [← HK.out]; rfl), rfl⟩
/-- a frame's marks -/
def mkF (f : Fm) (k : Nat) : Fm := ⟨f.ok, f.no, fun j => trM ((k + j : Nat) : Int), f.np, ptM (k + f.no), f.nh, mkY f.Y (k + f.no + 2 * f.np)⟩
def kEnd (f : Fm) (k : Nat) : Nat := kAt f.Y (k + f.no + 2 * f.np) f.nh
set_option maxRecDepth 100000 in
set_option maxHeartbeats 4000000 in
theorem mark16 (B : Nat) (f : Fm) (oa pa ha : Option Addr) (oc pc hc : Nat) (r : Nat → Nat) (w : World) (hs : f.small) (_hB : B ≤ w.heap.size) (h : FmOwn B w f (.slice oa f.no oc) (.slice pa f.np pc) (.slice ha f.nh hc) r) :
    Calls Try.prog 16 #[.agg #[.bool f.ok, .slice oa f.no oc, .slice pa f.np pc, .slice ha f.nh hc], .int .i64 ((1 : Nat) : Int)] w fun e w' => e = .returned (.int .i64 ((kEnd f 1 : Nat) : Int)) ∧ FmOwn B w' (mkF f 1) (.slice oa f.no oc) (.slice pa f.np pc) (.slice ha f.nh hc) r ∧ Fr (fun b => B ≤ b) w w' ∧ (∀ b T cur, Box w b T cur → T ≠ 4 → T ≠ 69 → T ≠ 71 → Box w' b T cur) := by
  obtain ⟨s1, s2, s3, s4⟩ := hs
  have HS : Hid (∀ i, i < f.nh → (f.Y i).nb ≤ 1048576) := s4
  have M0 : Hid (∃ w0, w0 = w.alloc (.cells #[.bool f.ok, .slice oa f.no oc, .slice pa f.np pc, .slice ha f.nh hc] 42) ∧ Box w0 w.heap.size 42 #[.bool f.ok, .slice oa f.no oc, .slice pa f.np pc, .slice ha f.nh hc] ∧ FmOwn B w0 f (.slice oa f.no oc) (.slice pa f.np pc) (.slice ha f.nh hc) r ∧ Fr (fun b => B ≤ b) w w0 ∧ (∀ b T cur, Box w b T cur → T ≠ 4 → T ≠ 69 → T ≠ 71 → Box w0 b T cur)) := ⟨_, rfl, Box.new w 42 _, h.mono (Nat.le_refl _) (bel1 _ _) (Nat.le_refl _), Fr.of_below (bel1 _ _), fun b T cur hb _ _ _ => hb.alloc _⟩
  clear h s4
  go_enter Try.func16, Try.ntmps16
  go_wp2_with fail
  obtain ⟨w0, hw0, k1, k2, k3, kt⟩ := M0.out
  rw [← hw0]
  clear hw0 M0
  refine (mark44 B oa f.no oc f.O 1 w0 s1 (by omega) k2.o).mono ?_
  rintro e w1 ⟨rfl, hv1, hf1⟩
  have M1 : Hid (Box w1 w.heap.size 42 #[.bool f.ok, .slice oa f.no oc, .slice pa f.np pc, .slice ha f.nh hc] ∧ VOwn B 4 1 w1 (.slice oa f.no oc) f.no (boolF fun j => trM ((1 + j : Nat) : Int)) ∧ VOwn B 69 2 w1 (.slice pa f.np pc) f.np (intF f.P) ∧ HsOwn B w1 (.slice ha f.nh hc) f.nh f.Y r ∧ (∀ g, (Value.slice oa f.no oc).ownBlock = some g → ∀ i, i < f.nh → r i ≠ g) ∧ Fr (fun b => B ≤ b) w w1 ∧ (∀ b T cur, Box w b T cur → T ≠ 4 → T ≠ 69 → T ≠ 71 → Box w1 b T cur)) := by
    have nb : ∀ {q T cur}, Box w0 q T cur → T ≠ 4 → ¬ (Value.slice oa f.no oc).ownBlock = some q := fun hb hT e => k2.o.off hb hT e rfl
    refine ⟨k1.fr hf1 (nb k1 (by decide)), hv1, k2.p.by_ fun b cur hb => hf1.block b hb.lt (nb hb (by decide)), ⟨k2.h.own.by_ fun b cur hb => hf1.block b hb.lt (nb hb (by decide)), fun i hi => ⟨(k2.h.row i hi).1.fr hf1 fun g e e' => ?_, (k2.h.row i hi).2⟩, k2.h.inj⟩, k2.ne, k3.trans (hf1.mono fun b _ e => (k2.o.lt e).1), fun b T cur hb h1 h2 h3 => (kt b T cur hb h1 h2 h3).fr hf1 (nb (kt b T cur hb h1 h2 h3) h1)⟩
    have := own_block e
    exact k2.ne g e' i hi (by omega)
  have a2 : w1.cell? ⟨w.heap.size, 2, none⟩ = some (.slice pa f.np pc) := M1.out.1.cell 2
  obtain ⟨x1, hx1⟩ : ∃ x, Hid (1 + f.no = x) := ⟨_, rfl⟩
  have hb1 : x1 ≤ 1048577 := by have := hx1.out; omega
  rw [hx1.out]
  clear k1 k2 k3 kt hv1 hf1
  go_wp2_with fail
  clear a2
  obtain ⟨k1, k2, k3, k4, k5, k6, kt⟩ := M1.out
  clear M1
  refine (mark45 B pa f.np pc f.P x1 w1 s2 (by omega) k3).mono ?_
  rintro e w2 ⟨rfl, hv1, hf1⟩
  have M2 : Hid (Box w2 w.heap.size 42 #[.bool f.ok, .slice oa f.no oc, .slice pa f.np pc, .slice ha f.nh hc] ∧ VOwn B 4 1 w2 (.slice oa f.no oc) f.no (boolF fun j => trM ((1 + j : Nat) : Int)) ∧ VOwn B 69 2 w2 (.slice pa f.np pc) f.np (intF (ptM x1)) ∧ HsOwn B w2 (.slice ha f.nh hc) f.nh f.Y r ∧ (∀ g, (Value.slice oa f.no oc).ownBlock = some g → ∀ i, i < f.nh → r i ≠ g) ∧ Fr (fun b => B ≤ b) w w2 ∧ (∀ b T cur, Box w b T cur → T ≠ 4 → T ≠ 69 → T ≠ 71 → Box w2 b T cur)) := by
    have nb : ∀ {q T cur}, Box w1 q T cur → T ≠ 69 → ¬ (Value.slice pa f.np pc).ownBlock = some q := fun hb hT e => k3.off hb hT e rfl
    exact ⟨k1.fr hf1 (nb k1 (by decide)), k2.by_ fun b cur hb => hf1.block b hb.lt (nb hb (by decide)), hv1, k4.by_ fun b T cur hb hT => hf1.block b hb.lt (nb hb (by rcases hT with rfl | rfl <;> decide)), k5, k6.trans (hf1.mono fun b _ e => (k3.lt e).1), fun b T cur hb h1 h2 h3 => (kt b T cur hb h1 h2 h3).fr hf1 (nb (kt b T cur hb h1 h2 h3) h2)⟩
  have a3 : w2.cell? ⟨w.heap.size, 3, none⟩ = some (.slice ha f.nh hc) := M2.out.1.cell 3
  obtain ⟨x2, hx2⟩ : ∃ x, Hid (x1 + 2 * f.np = x) := ⟨_, rfl⟩
  have hb2 : x2 ≤ 3145729 := by have := hx2.out; omega
  rw [hx2.out]
  clear k1 k2 k3 k4 k5 k6 kt hv1 hf1
  go_wp2_with fail
  clear a3
  obtain ⟨k1, k2, k3, k4, k5, k6, kt⟩ := M2.out
  clear M2
  refine (mark46 B ha f.nh hc f.Y r x2 w2 s3 (by omega) HS.out k4).mono ?_
  rintro e w3 ⟨rfl, hv1, hf1⟩
  have M3 : Hid (FmOwn B w3 (mkF f 1) (.slice oa f.no oc) (.slice pa f.np pc) (.slice ha f.nh hc) r ∧ Fr (fun b => B ≤ b) w w3 ∧ (∀ b T cur, Box w b T cur → T ≠ 4 → T ≠ 69 → T ≠ 71 → Box w3 b T cur)) := by
    have nb : ∀ {q T cur}, Box w2 q T cur → T ≠ 71 → T ≠ 4 → ¬ ((Value.slice ha f.nh hc).ownBlock = some q ∨ ∃ i, i < f.nh ∧ q = r i) := fun hb hT hT4 e => by
      rcases e with e | ⟨i, hi, rfl⟩
      · exact k4.own.off hb hT e rfl
      · obtain ⟨c4, hc4⟩ := (k4.row i hi).1.box (g := r i) rfl
        exact hb.ne hc4 hT4 rfl
    have e1 : mkF f 1 = ⟨f.ok, f.no, fun j => trM ((1 + j : Nat) : Int), f.np, ptM x1, f.nh, mkY f.Y x2⟩ := by rw [mkF, hx1.out, hx2.out]
    rw [e1]
    refine ⟨⟨k2.fr hf1 fun g e e' => ?_, k3.by_ fun b cur hb => hf1.block b hb.lt (nb hb (by decide) (by decide)), hv1, k5⟩, k6.trans (hf1.mono fun b _ e => ?_), fun b T cur hb h1 h2 h3 => (kt b T cur hb h1 h2 h3).fr hf1 (nb (kt b T cur hb h1 h2 h3) h3 h1)⟩
    · rcases e' with e' | ⟨i, hi, rfl⟩
      · obtain ⟨c4, hc4⟩ := k2.box e
        exact k4.own.off hc4 (by decide) e' rfl
      · exact k5 (r i) e i hi rfl
    · rcases e with e | ⟨i, hi, rfl⟩
      · exact (k4.own.lt e).1
      · exact (k4.row i hi).2
  have HK : Hid (kAt f.Y x2 f.nh = kEnd f 1) := by rw [Hid, kEnd, hx1.out, hx2.out]
  rw [HK.out]
  clear k1 k2 k3 k4 k5 k6 kt hv1 hf1
  go_wp2_with fail
  go_ret
  exact ⟨rfl, M3.out⟩

end Go.Proofs.Ytooebighlohobaa
