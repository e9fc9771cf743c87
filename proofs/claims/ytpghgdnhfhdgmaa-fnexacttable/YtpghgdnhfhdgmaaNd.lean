import Derived.Test.YtpghgdnhfhdgmaaMr
namespace Go.Proofs.Ytpghgdnhfhdgmaa
open Go.RowKit

/-- one flank more -/
def ndStep (out : List Rw) (k o l : Int) : List Rw := if k = 3 ∧ ¬ [o, l] ∈ out then out ++ [[o, l]] else out
/-- what a route needs, with its first k flanks -/
def nd (L : List Rw) (F : Nat → Nat → Int) : Nat → List Rw
  | 0 => L
  | k + 1 => ndStep (nd L F k) (F k 1) (F k 2) (F k 3)
theorem nd_succ (L : List Rw) (F : Nat → Nat → Int) (k : Nat) : nd L F (k + 1) = ndStep (nd L F k) (F k 1) (F k 2) (F k 3) := rfl
theorem ndStep_no {out : List Rw} {k o l : Int} (h : ¬ k = 3) : ndStep out k o l = out := by simp [ndStep, h]
theorem ndStep_in {out : List Rw} {k o l : Int} (h : [o, l] ∈ out) : ndStep out k o l = out := by simp [ndStep, h]
theorem ndStep_new {out : List Rw} {k o l : Int} (h : k = 3) (h' : ¬ [o, l] ∈ out) : ndStep out k o l = out ++ [[o, l]] := by simp [ndStep, h, h']
theorem ndStep_len (out : List Rw) (k o l : Int) : out.length ≤ (ndStep out k o l).length ∧ (ndStep out k o l).length ≤ out.length + 1 := by
  unfold ndStep
  split <;> simp
theorem nd_len (L : List Rw) (F : Nat → Nat → Int) (k : Nat) : (nd L F k).length ≤ L.length + k := by
  induction k with
  | zero => simp [nd]
  | succ k ih =>
    have := (ndStep_len (nd L F k) (F k 1) (F k 2) (F k 3)).2
    rw [nd_succ]
    omega
theorem nd_wide {L : List Rw} (h : Wide 2 L) (F : Nat → Nat → Int) (k : Nat) : Wide 2 (nd L F k) := by
  induction k with
  | zero => exact h
  | succ k ih =>
    rw [nd_succ]
    unfold ndStep
    split
    · exact ih.app (Wide.one rfl)
    · exact ih

theorem mem_two {l : List Rw} (h : Wide 2 l) (o x : Int) : [o, x] ∈ l ↔ ∃ q, q < l.length ∧ fnL l q 0 = o ∧ fnL l q 1 = x := by
  constructor
  · intro hm
    obtain ⟨q, hq, he⟩ := List.getElem_of_mem hm
    refine ⟨q, hq, ?_, ?_⟩ <;> simp [fnL, List.getD_eq_getElem?_getD, List.getElem?_eq_getElem hq, he]
  · rintro ⟨q, hq, h1, h2⟩
    have hw := h l[q] (List.getElem_mem hq)
    have e0 : l[q] = [o, x] := by
      simp only [fnL, List.getD_eq_getElem?_getD, List.getElem?_eq_getElem hq, Option.getD_some] at h1 h2
      match hh : l[q], hw with
      | [a, b], _ =>
        rw [hh] at h1 h2
        simp at h1 h2
        rw [h1, h2]
    rw [← e0]
    exact List.getElem_mem hq

set_option maxHeartbeats 1000000 in
theorem index55 (a : Option Addr) (n cap : Nat) (F : Nat → Nat → Int) (o l : Int) (w : World) (hn : n ≤ 2097152) (hE : NsAt 2 0 w a n F) :
    Calls Try.prog 55 #[.slice a n cap, .agg #[.int .i64 o, .int .i64 l]] w fun e w' => ∃ i : Int, e = .returned (.int .i64 i) ∧ (0 ≤ i ↔ ∃ q, q < n ∧ F q 0 = o ∧ F q 1 = l) ∧ Below w.heap.size w w' := by
  go_enter Try.func55, Try.ntmps55
  go_wp2_with fail
  have b0 := bel1 w (.cells #[.int .i64 o, .int .i64 l] 62)
  go_loopw [8] (fun i wr => ∃ (k : Nat), k ≤ n ∧ i = .int .i64 k ∧ Hid (∀ q, q < k → ¬ (F q 0 = o ∧ F q 1 = l)) ∧ Below (w.heap.size + 1) (w.alloc (.cells #[.int .i64 o, .int .i64 l] 62)) wr) (fun i _ => n - (intOf i).toNat)
  case atStart => exact ⟨0, Nat.zero_le _, rfl, fun q hq => absurd hq (Nat.not_lt_zero _), Below.refl _ _⟩
  case round =>
    obtain ⟨k, hk, rfl, hall, hbel⟩ := hrel
    have x0 : wr.cell? ⟨w.heap.size, 0, none⟩ = some (.int .i64 o) := (hbel.cell (p := ⟨w.heap.size, 0, none⟩) (by show w.heap.size < w.heap.size + 1; omega)).trans (by simp)
    have x1 : wr.cell? ⟨w.heap.size, 1, none⟩ = some (.int .i64 l) := (hbel.cell (p := ⟨w.heap.size, 1, none⟩) (by show w.heap.size < w.heap.size + 1; omega)).trans (by simp)
    have hB : Below w.heap.size w wr := b0.trans (hbel.mono (by omega))
    by_cases hlt : k < n
    · obtain ⟨b, off, rfl, _, hb, hc⟩ := (hE.mono (Nat.le_refl _) hB (Nat.le_refl _)) (by omega)
      have c0 : wr.cell? ⟨b, off + k * 2, none⟩ = some (.int .i64 (F k 0)) := hc k hlt 0 (by omega)
      have c1 : wr.cell? ⟨b, off + k * 2 + 1, none⟩ = some (.int .i64 (F k 1)) := hc k hlt 1 (by omega)
      have hlt' : (k : Int) < (n : Int) := by omega
      have hk0 : (0 : Int) ≤ (k : Int) := by omega
      clear hc
      by_cases h : F k 0 = o ∧ F k 1 = l
      · have h1 : (o == F k 0) = true := by simp [h.1]
        have h2 : (l == F k 1) = true := by simp [h.2]
        have HV : Hid (∃ q, q < n ∧ F q 0 = o ∧ F q 1 = l) := ⟨k, hlt, h⟩
        clear hall h
        go_wp2_with fail
        go_quiet (fail)
        go_wp2_with fail
        go_ret
        exact ⟨_, rfl, ⟨fun _ => HV.out, fun _ => by omega⟩, below_drewN hB _⟩
      · have HV : Hid (∀ q, q < k + 1 → ¬ (F q 0 = o ∧ F q 1 = l)) := by
          intro q hq
          by_cases e : q = k
          · subst e; exact h
          · exact hall.out q (by omega)
        by_cases h0 : o = F k 0
        · have h1 : (o == F k 0) = true := by simp [h0]
          have h2 : (l == F k 1) = false := by
            simp only [beq_eq_false_iff_ne, ne_eq]
            exact fun e => h ⟨h0.symm, e.symm⟩
          clear hall h h0
          go_wp2_with fail
          go_quiet (fail)
          go_wp2_with fail
          go_roundw
          case rel => exact ⟨k + 1, by omega, by go_num, HV, below_drewN hbel _⟩
          case measure => simp [intOf]; omega
        · have h1 : (o == F k 0) = false := by simp [h0]
          clear hall h h0
          go_wp2_with fail
          go_quiet (fail)
          go_wp2_with fail
          go_roundw
          case rel => exact ⟨k + 1, by omega, by go_num, HV, below_drewN hbel _⟩
          case measure => simp [intOf]; omega
    · obtain rfl : k = n := by omega
      go_wp2_with fail
      go_ret
      exact ⟨-1, rfl, ⟨fun h => absurd h (by omega), fun ⟨q, hq, h⟩ => absurd h (hall.out q hq)⟩, hB⟩

set_option maxHeartbeats 1000000 in
theorem contains36 (v : Value) (lst : List Rw) (o l : Int) (w : World) (hn : lst.length ≤ 2097152) (hE : LsAt 2 0 w v lst) :
    Calls Try.prog 36 #[v, .agg #[.int .i64 o, .int .i64 l]] w fun e w' => e = .returned (.bool (decide ([o, l] ∈ lst))) ∧ Below w.heap.size w w' := by
  obtain ⟨a, cap, rfl, hN⟩ := hE.val
  have HI : Hid ([o, l] ∈ lst ↔ ∃ q, q < lst.length ∧ fnL lst q 0 = o ∧ fnL lst q 1 = l) := mem_two hE.1 o l
  clear hE
  go_enter Try.func36, Try.ntmps36
  go_wp2_with fail
  have b0 := bel1 w (.cells #[.int .i64 o, .int .i64 l] 62)
  refine (index55 a lst.length cap (fnL lst) o l _ hn (hN.mono (Nat.le_refl _) b0 (Nat.le_refl _))).mono ?_
  rintro e w1 ⟨i, rfl, hi, hb1⟩
  have H9 : Hid (decide ([o, l] ∈ lst) = decide (0 ≤ i)) := by
    show _ = _
    rw [decide_eq_decide, HI.out, hi]
  have hB := b0.trans (hb1.mono b0.size)
  clear hi HI b0 hb1
  go_wp2_with fail
  go_ret
  exact ⟨by rw [H9.out]; rfl, hB⟩

end Go.Proofs.Ytpghgdnhfhdgmaa
