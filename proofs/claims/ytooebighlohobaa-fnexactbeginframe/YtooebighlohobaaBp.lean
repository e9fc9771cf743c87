import Derived.Test.YtooebighlohobaaBn
namespace Go.Proofs.Ytooebighlohobaa
open Go.RowKit

set_option maxRecDepth 100000 in
set_option maxHeartbeats 4000000 in
theorem held17 (f : Fm) (oa pa ha : Option Addr) (oc pc hc : Nat) (w : World) (hs : f.small) (h : FmIn 0 w (mkF f 1) oa pa ha) :
    Calls Try.prog 17 #[.agg #[.bool f.ok, .slice oa f.no oc, .slice pa f.np pc, .slice ha f.nh hc], .int .i64 ((1 : Nat) : Int)] w fun e w' => e = .returned (.int .i64 ((kEnd f 1 : Nat) : Int)) ∧ Below w.heap.size w w' := by
  obtain ⟨s1, s2, s3, s4⟩ := hs
  have HS : Hid (∀ i, i < f.nh → (f.Y i).nb ≤ 1048576) := s4
  obtain ⟨x1, hx1⟩ : ∃ x, Hid (1 + f.no = x) := ⟨_, rfl⟩
  obtain ⟨x2, hx2⟩ : ∃ x, Hid (x1 + 2 * f.np = x) := ⟨_, rfl⟩
  have hb1 : x1 ≤ 1048577 := by have := hx1.out; omega
  have hb2 : x2 ≤ 3145729 := by have := hx2.out; omega
  have e1 : mkF f 1 = ⟨f.ok, f.no, fun j => trM ((1 + j : Nat) : Int), f.np, ptM x1, f.nh, mkY f.Y x2⟩ := by rw [mkF, hx1.out, hx2.out]
  rw [e1] at h
  have M0 : Hid (∃ w0, w0 = w.alloc (.cells #[.bool f.ok, .slice oa f.no oc, .slice pa f.np pc, .slice ha f.nh hc] 42) ∧ Box w0 w.heap.size 42 #[.bool f.ok, .slice oa f.no oc, .slice pa f.np pc, .slice ha f.nh hc] ∧ FmIn 0 w0 ⟨f.ok, f.no, fun j => trM ((1 + j : Nat) : Int), f.np, ptM x1, f.nh, mkY f.Y x2⟩ oa pa ha ∧ Below w.heap.size w w0) := ⟨_, rfl, Box.new w 42 _, h.mono (Nat.le_refl _) (bel1 _ _) (Nat.le_refl _), bel1 _ _⟩
  clear h s4 e1
  go_enter Try.func17, Try.ntmps17
  go_wp2_with fail
  obtain ⟨w0, hw0, k1, k2, k3⟩ := M0.out
  rw [← hw0]
  have MM : Hid (Box w0 w.heap.size 42 #[.bool f.ok, .slice oa f.no oc, .slice pa f.np pc, .slice ha f.nh hc] ∧ FmIn 0 w0 ⟨f.ok, f.no, fun j => trM ((1 + j : Nat) : Int), f.np, ptM x1, f.nh, mkY f.Y x2⟩ oa pa ha ∧ Below w.heap.size w w0) := ⟨k1, k2, k3⟩
  clear hw0 M0 k1 k2 k3
  refine (held47 oa f.no oc 1 w0 s1 (by omega) MM.out.2.1.o).mono ?_
  rintro e w1 ⟨rfl, hw⟩
  have hw := hw.symm
  subst hw
  rw [hx1.out]
  have n1 : ¬ ((x1 : Int) < 0) := by omega
  have a2 : w0.cell? ⟨w.heap.size, 2, none⟩ = some (.slice pa f.np pc) := MM.out.1.cell 2
  go_wp2_with fail
  clear a2 n1
  refine (held48 pa f.np pc x1 w0 s2 (by omega) MM.out.2.1.p).mono ?_
  rintro e w1 ⟨rfl, hw⟩
  have hw := hw.symm
  subst hw
  rw [hx2.out]
  have n2 : ¬ ((x2 : Int) < 0) := by omega
  have a3 : w0.cell? ⟨w.heap.size, 3, none⟩ = some (.slice ha f.nh hc) := MM.out.1.cell 3
  go_wp2_with fail
  clear a3 n2
  refine (held49 ha f.nh hc f.Y x2 w0 s3 (by omega) HS.out MM.out.2.1.h).mono ?_
  rintro e w1 ⟨rfl, hw⟩
  have hw := hw.symm
  subst hw
  have HK : Hid (kAt f.Y x2 f.nh = kEnd f 1) := by rw [Hid, kEnd, hx1.out, hx2.out]
  rw [HK.out]
  have n3 : ¬ ((kEnd f 1 : Int) < 0) := by omega
  go_wp2_with fail
  go_ret
  exact ⟨rfl, MM.out.2.2⟩
/-- numbers and truths written over, nothing else -/
structure Mk (w w' : World) : Prop where
  shape : ∀ b T cur, Box w b T cur → ∃ cur', Box w' b T cur' ∧ cur'.size = cur.size ∧ (T = 3 ∨ T = 92 ∨ T = 4 ∨ cur' = cur)
theorem Mk.refl (w : World) : Mk w w := ⟨fun _b _T cur h => ⟨cur, h, rfl, .inr (.inr (.inr rfl))⟩⟩
theorem Mk.trans {a b c : World} (h : Mk a b) (k : Mk b c) : Mk a c := ⟨fun x T cur hx => by
  obtain ⟨c1, h1, h2, h3⟩ := h.shape x T cur hx
  obtain ⟨c2, k1, k2, k3⟩ := k.shape x T c1 h1
  refine ⟨c2, k1, by omega, ?_⟩
  rcases k3 with k3 | k3 | k3 | k3
  · exact .inl k3
  · exact .inr (.inl k3)
  · exact .inr (.inr (.inl k3))
  · rcases h3 with h3 | h3 | h3 | h3
    · exact .inl h3
    · exact .inr (.inl h3)
    · exact .inr (.inr (.inl h3))
    · exact .inr (.inr (.inr (by rw [k3, h3])))⟩
theorem Mk.of_below {w w' : World} (h : Below w.heap.size w w') : Mk w w' := ⟨fun _b _T cur hb => ⟨cur, hb.mono h (Nat.le_refl _), rfl, .inr (.inr (.inr rfl))⟩⟩
theorem Mk.set {w w' : World} (h : Mk w w') {g : Nat} {T : TypeId} {cu : Array Value} (hg : Box w' g T cu) (hT : T = 3 ∨ T = 92 ∨ T = 4) (j : Nat) (v : Value) : Mk w (w'.setCell ⟨g, j, none⟩ v) := h.trans ⟨fun b T' cur hb => by
  by_cases e : b = g
  · subst e
    refine ⟨_, hb.set j v, by simp, ?_⟩
    have a1 : w'.heap[b]? = some (.cells cu T (0, 0)) := hg
    have a2 : w'.heap[b]? = some (.cells cur T' (0, 0)) := hb
    rw [a1] at a2
    simp only [Option.some.injEq, Obj.cells.injEq] at a2
    rcases hT with rfl | rfl | rfl
    · exact .inl a2.2.1.symm
    · exact .inr (.inl a2.2.1.symm)
    · exact .inr (.inr (.inl a2.2.1.symm))
  · exact ⟨cur, hb.other (p := ⟨g, j, none⟩) e v, rfl, .inr (.inr (.inr rfl))⟩⟩
/-- a block that may be written over -/
def Wd (w : World) (g : Nat) (T : TypeId) (m : Nat) : Prop := ∃ cur, Box w g T cur ∧ m ≤ cur.size
theorem Wd.mk {w w' : World} {g : Nat} {T : TypeId} {m : Nat} (h : Wd w g T m) (k : Mk w w') : Wd w' g T m := by
  obtain ⟨cur, h1, h2⟩ := h
  obtain ⟨c2, k1, k2, _⟩ := k.shape g T cur h1
  exact ⟨c2, k1, by omega⟩
theorem VOwn.wd {B : Nat} {e : TypeId} {c : Nat} {w : World} {g n : Nat} {F : Nat → Nat → Value} (h : VOwn B e c w (.slice (some ⟨g, 0, none⟩) n n) n F) : Wd w g e (n * c) := by
  rcases h with ⟨e, _⟩ | ⟨g', cap, cur, e, k1, k2, k3, k4, k5, k6⟩
  · cases e
  · simp only [Value.slice.injEq, Option.some.injEq, Addr.mk.injEq, and_true, true_and] at e
    obtain ⟨rfl, rfl⟩ := e
    exact ⟨cur, k2, by omega⟩

set_option maxHeartbeats 2000000 in
theorem wr41 (g n c : Nat) (k : Nat) (w : World) (hn : n ≤ 1048576) (hk : k ≤ 100000000000000) (hB : Wd w g 3 (n * 1)) :
    Calls Try.prog 41 #[.slice (some ⟨g, 0, none⟩) n c, .int .i64 (k : Int)] w fun e w' => e = .returned (.int .i64 ((k + n : Nat) : Int)) ∧ Mk w w' ∧ Fr (fun b => b = g) w w' := by
  have HB : Hid (Wd w g 3 (n * 1)) := hB
  clear hB
  go_enter Try.func41, Try.ntmps41
  go_wp2_with fail
  go_loopw [1, 5] (fun l i wr => ∃ q : Nat, q ≤ n ∧ i = .int .i64 (q : Int) ∧ l = .int .i64 ((k + q : Nat) : Int) ∧ Hid (Mk w wr ∧ Fr (fun b => b = g) w wr)) (fun _ i _ => n - (intOf i).toNat)
  case atStart => exact ⟨0, Nat.zero_le _, rfl, rfl, Mk.refl _, Fr.refl _ _⟩
  case round =>
    obtain ⟨q, hq, rfl, rfl, M⟩ := hrel
    by_cases hlt : q < n
    · obtain ⟨cu, hb, hz⟩ := HB.out.mk M.out.1
      have hq0 : (0 : Int) ≤ (q : Int) := by omega
      have hqn : (q : Int) < (n : Int) := by omega
      obtain ⟨u, d0⟩ : ∃ u, wr.cell? ⟨g, q, none⟩ = some u := ⟨cu[q]'(by omega), by rw [hb.cell]; exact Array.getElem?_eq_getElem _⟩
      have d1 := hb.free q
      have M2 : Hid (∀ v : Value, Mk w (wr.setCell ⟨g, q, none⟩ v) ∧ Fr (fun b => b = g) w (wr.setCell ⟨g, q, none⟩ v)) := fun v => ⟨M.out.1.set hb (.inl rfl) q v, M.out.2.cells rfl _ _⟩
      clear M hb
      go_wp2_with fail
      go_roundw
      case rel => exact ⟨q + 1, by omega, by go_num, by go_num, M2.out _⟩
      case measure => simp [intOf]; omega
    · have hge : ¬ ((q : Int) < (n : Int)) := by omega
      have hqn : q = n := by omega
      have HR : Hid (Mk w wr ∧ Fr (fun b => b = g) w wr) := M
      clear M
      go_wp2_with fail
      go_ret
      exact ⟨by first | rfl | (rw [hqn]; rfl), HR.out⟩

set_option maxHeartbeats 2000000 in
theorem wr66 (g n c : Nat) (k : Nat) (w : World) (hn : n ≤ 1048576) (hk : k ≤ 100000000000000) (hB : Wd w g 92 (n * 2)) :
    Calls Try.prog 66 #[.slice (some ⟨g, 0, none⟩) n c, .int .i64 (k : Int)] w fun e w' => e = .returned (.int .i64 ((k + 2 * n : Nat) : Int)) ∧ Mk w w' ∧ Fr (fun b => b = g) w w' := by
  have HB : Hid (Wd w g 92 (n * 2)) := hB
  clear hB
  go_enter Try.func66, Try.ntmps66
  go_wp2_with fail
  go_loopw [1, 5] (fun l i wr => ∃ q : Nat, q ≤ n ∧ i = .int .i64 (q : Int) ∧ l = .int .i64 ((k + 2 * q : Nat) : Int) ∧ Hid (Mk w wr ∧ Fr (fun b => b = g) w wr)) (fun _ i _ => n - (intOf i).toNat)
  case atStart => exact ⟨0, Nat.zero_le _, rfl, rfl, Mk.refl _, Fr.refl _ _⟩
  case round =>
    obtain ⟨q, hq, rfl, rfl, M⟩ := hrel
    by_cases hlt : q < n
    · obtain ⟨cu, hb, hz⟩ := HB.out.mk M.out.1
      have hq0 : (0 : Int) ≤ (q : Int) := by omega
      have hqn : (q : Int) < (n : Int) := by omega
      obtain ⟨u, d0⟩ : ∃ u, wr.cell? ⟨g, q * 2, none⟩ = some u := ⟨cu[q * 2]'(by omega), by rw [hb.cell]; exact Array.getElem?_eq_getElem _⟩
      obtain ⟨u', e0⟩ : ∃ u, wr.cell? ⟨g, q * 2 + 1, none⟩ = some u := ⟨cu[q * 2 + 1]'(by omega), by rw [hb.cell]; exact Array.getElem?_eq_getElem _⟩
      have d1 := hb.free (q * 2)
      have e1 := hb.free (q * 2 + 1)
      have M2 : Hid (∀ v v' : Value, Mk w ((wr.setCell ⟨g, q * 2, none⟩ v).setCell ⟨g, q * 2 + 1, none⟩ v') ∧ Fr (fun b => b = g) w ((wr.setCell ⟨g, q * 2, none⟩ v).setCell ⟨g, q * 2 + 1, none⟩ v')) := fun v v' => ⟨(M.out.1.set hb (.inr (.inl rfl)) (q * 2) v).set (hb.set (q * 2) v) (.inr (.inl rfl)) (q * 2 + 1) v', (M.out.2.cells rfl _ _).cells rfl _ _⟩
      clear M hb
      go_wp2_with fail
      go_roundw
      case rel => exact ⟨q + 1, by omega, by go_num, by go_num, M2.out _ _⟩
      case measure => simp [intOf]; omega
    · have hge : ¬ ((q : Int) < (n : Int)) := by omega
      have hqn : q = n := by omega
      have HR : Hid (Mk w wr ∧ Fr (fun b => b = g) w wr) := M
      clear M
      go_wp2_with fail
      go_ret
      exact ⟨by first | rfl | (rw [hqn]; rfl), HR.out⟩

set_option maxHeartbeats 2000000 in
theorem wr44 (g n c : Nat) (k : Nat) (w : World) (hn : n ≤ 1048576) (hk : k ≤ 100000000000000) (hB : Wd w g 4 (n * 1)) :
    Calls Try.prog 44 #[.slice (some ⟨g, 0, none⟩) n c, .int .i64 (k : Int)] w fun e w' => e = .returned (.int .i64 ((k + n : Nat) : Int)) ∧ Mk w w' ∧ Fr (fun b => b = g) w w' := by
  have HB : Hid (Wd w g 4 (n * 1)) := hB
  clear hB
  go_enter Try.func44, Try.ntmps44
  go_wp2_with fail
  go_loopw [1, 5] (fun l i wr => ∃ q : Nat, q ≤ n ∧ i = .int .i64 (q : Int) ∧ l = .int .i64 ((k + q : Nat) : Int) ∧ Hid (Mk w wr ∧ Fr (fun b => b = g) w wr)) (fun _ i _ => n - (intOf i).toNat)
  case atStart => exact ⟨0, Nat.zero_le _, rfl, rfl, Mk.refl _, Fr.refl _ _⟩
  case round =>
    obtain ⟨q, hq, rfl, rfl, M⟩ := hrel
    by_cases hlt : q < n
    · obtain ⟨cu, hb, hz⟩ := HB.out.mk M.out.1
      have hq0 : (0 : Int) ≤ (q : Int) := by omega
      have hqn : (q : Int) < (n : Int) := by omega
      obtain ⟨u, d0⟩ : ∃ u, wr.cell? ⟨g, q, none⟩ = some u := ⟨cu[q]'(by omega), by rw [hb.cell]; exact Array.getElem?_eq_getElem _⟩
      have d1 := hb.free q
      have M2 : Hid (∀ v : Value, Mk w (wr.setCell ⟨g, q, none⟩ v) ∧ Fr (fun b => b = g) w (wr.setCell ⟨g, q, none⟩ v)) := fun v => ⟨M.out.1.set hb (.inr (.inr rfl)) q v, M.out.2.cells rfl _ _⟩
      clear M hb
      go_wp2_with fail
      go_roundw
      case rel => exact ⟨q + 1, by omega, by go_num, by go_num, M2.out _⟩
      case measure => simp [intOf]; omega
    · have hge : ¬ ((q : Int) < (n : Int)) := by omega
      have hqn : q = n := by omega
      have HR : Hid (Mk w wr ∧ Fr (fun b => b = g) w wr) := M
      clear M
      go_wp2_with fail
      go_ret
      exact ⟨by first | rfl | (rw [hqn]; rfl), HR.out⟩

end Go.Proofs.Ytooebighlohobaa
