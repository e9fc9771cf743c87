import Derived.Test.YtflomaagenjfpaaQb
import Derived.Test.YtflomaagenjfpaaTo
namespace Go.Proofs.Ytflomaagenjfpaa
open Go.RowKit

set_option maxHeartbeats 1000000 in
/-- numbers written over a list of one's own -/
theorem mark15 (v : Value) (n : Nat) (F : Nat → Int) (og : Option Nat) (k : Nat) (w : World) (hn : n ≤ 1048576) (hk : k ≤ 100000000) (hQ : QAt w v n F og) :
    Calls Try.prog 15 #[v, .int .i64 (k : Int)] w fun e w' => e = .returned (.int .i64 ((k + n : Nat) : Int)) ∧ QAt w' v n (fun j => ((k + j : Nat) : Int)) og ∧ Fr (fun b => og = some b) w w' := by
  obtain ⟨a, c, rfl⟩ := hQ.val
  have HQ : Hid (QAt w (.slice a n c) n F og) := hQ
  clear hQ
  go_enter Try.func15, Try.ntmps15
  go_wp2_with fail
  go_loopw [1, 5] (fun l i wr => ∃ q : Nat, q ≤ n ∧ i = .int .i64 (q : Int) ∧ l = .int .i64 ((k + q : Nat) : Int) ∧ Hid (QAt wr (.slice a n c) n (fun j => if j < q then ((k + j : Nat) : Int) else F j) og ∧ Fr (fun b => og = some b) w wr)) (fun _ i _ => n - (intOf i).toNat)
  case atStart => exact ⟨0, Nat.zero_le _, rfl, rfl, HQ.out.congr fun j _ => (if_neg (Nat.not_lt_zero j)).symm, Fr.refl _ _⟩
  case round =>
    obtain ⟨q, hq, rfl, rfl, M⟩ := hrel
    by_cases hlt : q < n
    · obtain ⟨g, off, ho, hr, z, hc, hs, he⟩ := M.out.1.addr (by omega)
      subst hr
      subst ho
      have hq0 : (0 : Int) ≤ (q : Int) := by omega
      have hqn : (q : Int) < (n : Int) := by omega
      have d0 := he q hlt
      have d1 := (hs q (by omega)).2
      have M2 : Hid (QAt (wr.setCell ⟨g, off + q, none⟩ (.int .i64 ((k + q : Nat) : Int))) (.slice (some ⟨g, off, none⟩) n c) n (fun j => if j < q + 1 then ((k + j : Nat) : Int) else F j) (some g) ∧ Fr (fun b => some g = some b) w (wr.setCell ⟨g, off + q, none⟩ (.int .i64 ((k + q : Nat) : Int)))) := by
        refine ⟨(M.out.1.store hlt ((k + q : Nat) : Int)).congr fun j hj => ?_, M.out.2.cells rfl _ _⟩
        by_cases e : j = q
        · subst e
          rw [updI_same, if_pos (by omega)]
        · rw [updI_other _ _ e]
          by_cases e2 : j < q
          · rw [if_pos e2, if_pos (by omega)]
          · rw [if_neg e2, if_neg (by omega)]
      clear M hs he hc
      go_wp2_with fail
      go_roundw
      case rel => exact ⟨q + 1, by omega, by go_num, by go_num, M2⟩
      case measure => simp [intOf]; omega
    · have hge : ¬ ((q : Int) < (n : Int)) := by omega
      have hqn : q = n := by omega
      have HR : Hid (QAt wr (.slice a n c) n (fun j => ((k + j : Nat) : Int)) og ∧ Fr (fun b => og = some b) w wr) := ⟨M.out.1.congr fun j hj => if_pos (by omega), M.out.2⟩
      clear M
      go_wp2_with fail
      go_ret
      exact ⟨by first | rfl | (rw [hqn]; rfl), HR.out⟩

set_option maxHeartbeats 1000000 in
theorem held16 (a : Option Addr) (n c : Nat) (k : Nat) (w : World) (hn : n ≤ 1048576) (hk : k ≤ 100000000) (hQ : VsAt 1 0 w a n (oneF fun j => ((k + j : Nat) : Int))) :
    Calls Try.prog 16 #[.slice a n c, .int .i64 (k : Int)] w fun e w' => e = .returned (.int .i64 ((k + n : Nat) : Int)) ∧ w' = w := by
  have HQ : Hid (VsAt 1 0 w a n (oneF fun j => ((k + j : Nat) : Int))) := hQ
  clear hQ
  go_enter Try.func16, Try.ntmps16
  go_wp2_with fail
  go_loop [1, 5] (fun l i => ∃ q : Nat, q ≤ n ∧ i = .int .i64 (q : Int) ∧ l = .int .i64 ((k + q : Nat) : Int)) (fun _ i => n - (intOf i).toNat)
  case atStart => exact ⟨0, Nat.zero_le _, rfl, rfl⟩
  case round =>
    obtain ⟨q, hq, rfl, rfl⟩ := hrel
    by_cases hlt : q < n
    · obtain ⟨b, off, hr, _, hb, hc⟩ := HQ.out (by omega)
      subst hr
      have hq0 : (0 : Int) ≤ (q : Int) := by omega
      have hqn : (q : Int) < (n : Int) := by omega
      have d0 : w.cell? ⟨b, off + q, none⟩ = some (.int .i64 ((k + q : Nat) : Int)) := by have := hc q hlt 0 (by omega); rwa [Nat.mul_one] at this
      clear hc
      go_wp2_with fail
      go_round
      case rel => exact ⟨q + 1, by omega, by go_num, by go_num⟩
      case measure => simp [intOf]; omega
    · have hge : ¬ ((q : Int) < (n : Int)) := by omega
      have hqn : q = n := by omega
      go_wp2_with fail
      go_ret
      exact ⟨by first | rfl | (rw [hqn]; rfl), rfl⟩

theorem Box.size_set {w : World} {g : Nat} {cur : Array Value} (h : Box w g 4 cur) (j : Nat) (v : Value) : ∃ cur', Box (w.setCell ⟨g, j, none⟩ v) g 4 cur' ∧ cur'.size = cur.size := ⟨_, h.set j v, by simp⟩
set_option maxHeartbeats 1000000 in
/-- truths written over a list of one's own -/
theorem mark31 (g n c : Nat) (cur : Array Value) (k : Nat) (w : World) (hn : n ≤ 1048576) (hk : k ≤ 100000000000000) (hB : Box w g 4 cur) (hs : n ≤ cur.size) :
    Calls Try.prog 31 #[.slice (some ⟨g, 0, none⟩) n c, .int .i64 (k : Int)] w fun e w' => e = .returned (.int .i64 ((k + n : Nat) : Int)) ∧ (∃ cur', Box w' g 4 cur' ∧ cur'.size = cur.size) ∧ Fr (fun b => b = g) w w' := by
  have HB : Hid (Box w g 4 cur) := hB
  clear hB
  go_enter Try.func31, Try.ntmps31
  go_wp2_with fail
  go_loopw [1, 5] (fun l i wr => ∃ q : Nat, q ≤ n ∧ i = .int .i64 (q : Int) ∧ l = .int .i64 ((k + q : Nat) : Int) ∧ Hid ((∃ cur', Box wr g 4 cur' ∧ cur'.size = cur.size) ∧ Fr (fun b => b = g) w wr)) (fun _ i _ => n - (intOf i).toNat)
  case atStart => exact ⟨0, Nat.zero_le _, rfl, rfl, ⟨cur, HB.out, rfl⟩, Fr.refl _ _⟩
  case round =>
    obtain ⟨q, hq, rfl, rfl, M⟩ := hrel
    by_cases hlt : q < n
    · obtain ⟨⟨cu, hb, hz⟩, hf⟩ := M.out
      have hq0 : (0 : Int) ≤ (q : Int) := by omega
      have hqn : (q : Int) < (n : Int) := by omega
      obtain ⟨u, d0⟩ : ∃ u, wr.cell? ⟨g, q, none⟩ = some u := ⟨cu[q]'(by omega), by rw [hb.cell]; exact Array.getElem?_eq_getElem _⟩
      have d1 := hb.free q
      have M2 : Hid (∀ v : Value, (∃ cur', Box (wr.setCell ⟨g, q, none⟩ v) g 4 cur' ∧ cur'.size = cur.size) ∧ Fr (fun b => b = g) w (wr.setCell ⟨g, q, none⟩ v)) := fun v => by
        obtain ⟨c2, h1, h2⟩ := hb.size_set q v
        exact ⟨⟨c2, h1, by omega⟩, hf.cells rfl _ _⟩
      clear M hb hf
      go_wp2_with fail
      go_roundw
      case rel => exact ⟨q + 1, by omega, by go_num, by go_num, M2.out _⟩
      case measure => simp [intOf]; omega
    · have hge : ¬ ((q : Int) < (n : Int)) := by omega
      have hqn : q = n := by omega
      have HR : Hid ((∃ cur', Box wr g 4 cur' ∧ cur'.size = cur.size) ∧ Fr (fun b => b = g) w wr) := M
      clear M
      go_wp2_with fail
      go_ret
      exact ⟨by first | rfl | (rw [hqn]; rfl), HR.out⟩
/-- rows of truths that may be written over -/
def BsW (w : World) (kb n : Nat) (K rr : Nat → Nat) : Prop :=
  ∃ vs : Array Value, Box w kb 23 vs ∧ vs.size = n ∧ ∀ i, i < n → vs[i]? = some (.slice (some ⟨rr i, 0, none⟩) (K i) (K i)) ∧ (∃ cur, Box w (rr i) 4 cur ∧ K i ≤ cur.size) ∧ kb < rr i
theorem BsOwn.bw {w : World} {b n : Nat} {K : Nat → Nat} {T : Nat → Nat → Bool} {r : Nat → Nat} (h : BsOwn w b n n K T r) : BsW w b n K r := by
  obtain ⟨vs, h1, h2, h3⟩ := h
  refine ⟨vs, h1, h2, fun i hi => ?_⟩
  obtain ⟨e1, e2, e3, _⟩ := h3 i hi
  refine ⟨e1, ?_, e3⟩
  rcases e2 with ⟨e, _⟩ | ⟨g, cap, cur, e, k1, k2, k3, k4, k5, k6⟩
  · cases e
  · simp only [Value.slice.injEq, Option.some.injEq, Addr.mk.injEq, and_true, true_and] at e
    obtain ⟨rfl, rfl⟩ := e
    exact ⟨cur, k2, by omega⟩
theorem BsW.mark {w w' : World} {kb n : Nat} {K rr : Nat → Nat} {q : Nat} (h : BsW w kb n K rr) (hq : q < n) {cur cur' : Array Value} (hb : Box w (rr q) 4 cur) (hb' : Box w' (rr q) 4 cur') (hz : cur'.size = cur.size) (hf : Fr (fun b => b = rr q) w w') : BsW w' kb n K rr := by
  obtain ⟨vs, h1, h2, h3⟩ := h
  have hkq := (h3 q hq).2.2
  refine ⟨vs, h1.fr hf (by omega), h2, fun i hi => ?_⟩
  obtain ⟨e1, ⟨cu, e2, e3⟩, e4⟩ := h3 i hi
  refine ⟨e1, ?_, e4⟩
  by_cases e : rr i = rr q
  · rw [e] at e2 ⊢
    have a1 : w.heap[rr q]? = some (.cells cu 4 (0, 0)) := e2
    have a2 : w.heap[rr q]? = some (.cells cur 4 (0, 0)) := hb
    rw [a1] at a2
    simp only [Option.some.injEq, Obj.cells.injEq] at a2
    exact ⟨cur', hb', by rw [hz, ← a2.1]; exact e3⟩
  · exact ⟨cu, e2.fr hf e, e3⟩
set_option maxHeartbeats 1000000 in
theorem mark32 (kb n c : Nat) (K rr : Nat → Nat) (E : Nat) (k : Nat) (w : World) (hn : n ≤ 1048576) (hK : ∀ i, i < n → K i ≤ 1048576) (hE : ∀ i, i < n → rr i < E) (hk : k ≤ 100000000) (hB : BsW w kb n K rr) :
    Calls Try.prog 32 #[.slice (some ⟨kb, 0, none⟩) n c, .int .i64 (k : Int)] w fun e w' => (∃ m : Nat, e = .returned (.int .i64 (m : Int))) ∧ Fr (fun b => kb < b ∧ b < E) w w' := by
  have HB : Hid (BsW w kb n K rr) := hB
  have HK : Hid ((∀ i, i < n → K i ≤ 1048576) ∧ ∀ i, i < n → rr i < E) := ⟨hK, hE⟩
  clear hB hK hE
  go_enter Try.func32, Try.ntmps32
  go_wp2_with fail
  go_loopw [1, 5] (fun l i wr => ∃ q m : Nat, q ≤ n ∧ i = .int .i64 (q : Int) ∧ l = .int .i64 (m : Int) ∧ m ≤ 100000000 + q * 1048576 ∧ Hid (BsW wr kb n K rr ∧ Fr (fun b => kb < b ∧ b < E) w wr)) (fun _ i _ => n - (intOf i).toNat)
  case atStart => exact ⟨0, k, Nat.zero_le _, rfl, rfl, by omega, HB.out, Fr.refl _ _⟩
  case round =>
    obtain ⟨q, m, hq, rfl, rfl, hm, M⟩ := hrel
    by_cases hlt : q < n
    · obtain ⟨vs, h1, h2, h3⟩ := M.out.1
      obtain ⟨e1, ⟨cu, e2, e3⟩, e4⟩ := h3 q hlt
      have hq0 : (0 : Int) ≤ (q : Int) := by omega
      have hqn : (q : Int) < (n : Int) := by omega
      have d0 : wr.cell? ⟨kb, q, none⟩ = some (.slice (some ⟨rr q, 0, none⟩) (K q) (K q)) := by rw [h1.cell, e1]
      have HC : Hid (Calls Try.prog 31 #[.slice (some ⟨rr q, 0, none⟩) (K q) (K q), .int .i64 (m : Int)] wr fun e w' => e = .returned (.int .i64 ((m + K q : Nat) : Int)) ∧ BsW w' kb n K rr ∧ Fr (fun b => kb < b ∧ b < E) w w') := by
        refine (mark31 (rr q) (K q) (K q) cu m wr (HK.out.1 q hlt) (by omega) e2 e3).mono ?_
        rintro e w' ⟨he, ⟨c2, hb2, hz2⟩, hf⟩
        have hqE := HK.out.2 q hlt
        exact ⟨he, M.out.1.mark hlt e2 hb2 hz2 hf, M.out.2.trans (hf.mono fun b _ hb => by omega)⟩
      have hKq := HK.out.1 q hlt
      obtain ⟨m2, hm2⟩ : ∃ m2, Hid (m + K q = m2) := ⟨_, rfl⟩
      rw [hm2.out] at HC
      have hb2 : m2 ≤ 100000000 + (q + 1) * 1048576 := by have := hm2.out; omega
      clear M h1 h2 h3 e1 e2 e3 e4
      go_wp2_with fail
      refine HC.out.mono ?_
      rintro e w2 ⟨rfl, hbw, hfr⟩
      have M2 : Hid (BsW w2 kb n K rr ∧ Fr (fun b => kb < b ∧ b < E) w w2) := ⟨hbw, hfr⟩
      clear HC hbw hfr d0
      go_wp2_with fail
      go_roundw
      case rel => exact ⟨q + 1, m2, by omega, by go_num, rfl, hb2, M2⟩
      case measure => simp [intOf]; omega
    · have hge : ¬ ((q : Int) < (n : Int)) := by omega
      have HR : Hid (Fr (fun b => kb < b ∧ b < E) w wr) := M.out.2
      clear M
      go_wp2_with fail
      go_ret
      exact ⟨⟨m, rfl⟩, HR.out⟩

end Go.Proofs.Ytflomaagenjfpaa
