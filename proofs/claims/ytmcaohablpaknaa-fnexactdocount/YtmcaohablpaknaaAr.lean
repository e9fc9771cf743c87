import Derived.Test.YtmcaohablpaknaaRg
import Derived.OwnWalk
namespace Go.Proofs.Ytmcaohablpaknaa
open Go.RowKit Go.ChangeShapes Go.WideShapes

open Classical in
/-- Around -/
noncomputable def arF (sec : Int) (n : Nat) (K : Nat → Nat → Int) (x : Int) : List Int := if layOk sec n K = 0 ∧ 0 ≤ x ∧ x ≤ sec - 1 then arN K x n else []
theorem cell_one_new' (w : World) (x : Value) (t : TypeId) {q : Nat} (hq : w.heap.size = q) : ∀ j u, [x][j]? = some u → (w.alloc (.cells #[x] t)).cell? ((⟨q, 0, none⟩ : Addr).add j) = some u := by
  subst hq
  exact cell_one_new w x t
theorem arF_len (sec : Int) (n : Nat) (K : Nat → Nat → Int) (x : Int) : (arF sec n K x).length ≤ n := by
  unfold arF
  split
  · exact arN_len _ _ _
  · simp
theorem arF_len' (sec : Int) (n : Nat) (K : Nat → Nat → Int) (x : Int) : (arF sec n K x).length ≤ 120 := by
  unfold arF
  split
  · rename_i h
    have := (layGood h.1).m
    have := arN_len K x n
    omega
  · simp

set_option maxRecDepth 10000 in
set_option maxHeartbeats 4000000 in
theorem arS (sec : Int) (a : Option Addr) (n cap : Nat) (K : Nat → Nat → Int) (x : Int) (w : World) (hn : n ≤ 1048576) (hE : VsAt 2 0 w a n (intF K)) :
    Calls Try.prog 14 #[.agg #[.int .i64 sec, .slice a n cap], .int .i64 x] w fun e w' => ∃ v, e = .returned v ∧ w'.ownsInts w.heap.size 3 .i64 v (arF sec n K x) ∧ Below w.heap.size w w' := by
  obtain ⟨i0, hi, hz0, hz1, hz2⟩ := info_parts infoInt
  have HE : Hid (VsAt 2 0 w a n (intF K)) := hE
  clear hE
  go_enter Try.func14, Try.ntmps14
  go_wp2_with fail
  have B0 := bel1 w (.cells #[.int .i64 sec, .slice a n cap] 29)
  have L0 := Box.new w 29 #[.int .i64 sec, .slice a n cap]
  refine (layS sec a n cap K _ hn (HE.out.mono (Nat.le_refl _) B0 (Nat.le_refl _))).mono ?_
  rintro e w1 ⟨rfl, hb1⟩
  have L1 := L0.mono hb1 (Nat.le_refl _)
  have B1 := B0.trans (hb1.mono B0.size)
  have l0 : w1.cell? ⟨w.heap.size, 0, none⟩ = some (.int .i64 sec) := L1.cell 0
  have l1 : w1.cell? ⟨w.heap.size, 1, none⟩ = some (.slice a n cap) := L1.cell 1
  have HB : Hid (Below w.heap.size w w1) := B1
  clear L0 B0 L1 B1 hb1
  by_cases hok : layOk sec n K = 0
  · have hg := layGood hok
    have s1 := hg.s1
    have s2 := hg.s2
    have n120 : n ≤ 120 := hg.m
    have HF : Hid (0 ≤ x ∧ x ≤ sec - 1 → arF sec n K x = arN K x n) := fun h => by unfold arF; rw [if_pos ⟨hok, h⟩]
    have HN : Hid (¬ (0 ≤ x ∧ x ≤ sec - 1) → arF sec n K x = []) := fun h => by unfold arF; rw [if_neg (fun q => h q.2)]
    clear hg
    rw [hok]
    clear hok
    by_cases hx : 0 ≤ x ∧ x ≤ sec - 1
    · go_wp2_with fail
      refine (innT x 0 (sec - 1) _ hx).mono ?_
      rintro e w2 ⟨rfl, rfl⟩
      go_wp2_with fail
      go_loopw [5, 22] (fun v i wr => ∃ k : Nat, k ≤ n ∧ i = .int .i64 k ∧ wr.ownsInts w.heap.size 3 .i64 v (arN K x k) ∧ Below w.heap.size w wr) (fun _ i _ => n - (intOf i).toNat)
      case atStart => exact ⟨0, Nat.zero_le _, rfl, World.ownsInts_nil _ _ _ _, HB.out⟩
      case round =>
        obtain ⟨k, hk, rfl, hoi, hbel⟩ := hrel
        by_cases hlt : k < n
        · obtain ⟨b, off, rfl, _, hb, hc⟩ := (HE.out.mono (Nat.le_refl _) hbel (Nat.le_refl _)) (by omega)
          have c0 : wr.cell? ⟨b, off + k * 2, none⟩ = some (.int .i64 (K k 0)) := hc k hlt 0 (by omega)
          have c1 : wr.cell? ⟨b, off + k * 2 + 1, none⟩ = some (.int .i64 (K k 1)) := hc k hlt 1 (by omega)
          have hz := arN_len K x k
          have hw0 := hbel.size
          have HO : Hid (wr.ownsInts w.heap.size 3 .i64 u5 (arN K x k)) := hoi
          have HBr : Hid (Below w.heap.size w wr) := hbel
          clear hc hoi hbel
          by_cases hm : K k 0 = x ∨ K k 1 = x
          · have HS : Hid (arN K x (k + 1) = arN K x k ++ [(k : Int)]) := by
              show arN K x (k + 1) = _
              simp only [arN]
              rw [if_pos hm]
            generalize arN K x k = zs at HO HS hz
            by_cases b0 : K k 0 = x
            · clear hm
              go_wp2_with (at_builtin; go_must (refine wpList_append_own_at _ rfl _ _ 33 rfl w.heap.size 3 i0 (.int .i64 0) 1 8 Try.underlying33 hi hz0 hz1 hz2 rfl (by decide) _ _ _ rfl ((HO.out.1.alloc _).alloc _) ⟨wr.heap.size + 1, 0, none⟩ 1 1 [.int .i64 k] rfl rfl (cell_one_new' _ _ _ (by simp)) (ints_oneCell .i64 [(k : Int)]) (by unfold maxLen; omega) (by omega) (by simp; omega) ?_); intro v' w1 hown' hgrow hnil hloc)
              go_roundw
              case rel =>
                have ho2 := HO.out.appended hown' (WalkArith.wf_i64 (by omega))
                rw [← HS.out] at ho2
                exact ⟨k + 1, by omega, by go_num, ho2, (((HBr.out.alloc (by omega) _).alloc (by simp; omega) _).grown hgrow (by simp; omega) (fun j hj => (HO.out.1.lt j hj).1))⟩
              case measure => simp [intOf]; omega
            · have b1 : K k 1 = x := by rcases hm with h | h; exact absurd h b0; exact h
              have e0 : (K k 0 == x) = false := by simp [b0]
              have e1 : (K k 1 == x) = true := by simp [b1]
              clear hm b0 b1
              go_wp2_with (at_builtin; go_must (refine wpList_append_own_at _ rfl _ _ 33 rfl w.heap.size 3 i0 (.int .i64 0) 1 8 Try.underlying33 hi hz0 hz1 hz2 rfl (by decide) _ _ _ rfl ((HO.out.1.alloc _).alloc _) ⟨wr.heap.size + 1, 0, none⟩ 1 1 [.int .i64 k] rfl rfl (cell_one_new' _ _ _ (by simp)) (ints_oneCell .i64 [(k : Int)]) (by unfold maxLen; omega) (by omega) (by simp; omega) ?_); intro v' w1 hown' hgrow hnil hloc)
              go_roundw
              case rel =>
                have ho2 := HO.out.appended hown' (WalkArith.wf_i64 (by omega))
                rw [← HS.out] at ho2
                exact ⟨k + 1, by omega, by go_num, ho2, (((HBr.out.alloc (by omega) _).alloc (by simp; omega) _).grown hgrow (by simp; omega) (fun j hj => (HO.out.1.lt j hj).1))⟩
              case measure => simp [intOf]; omega
          · have b0 : ¬ K k 0 = x := fun h => hm (Or.inl h)
            have b1 : ¬ K k 1 = x := fun h => hm (Or.inr h)
            have HS : Hid (arN K x (k + 1) = arN K x k) := by
              show arN K x (k + 1) = _
              simp only [arN]
              rw [if_neg hm]
            have e0 : (K k 0 == x) = false := by simp [b0]
            have e1 : (K k 1 == x) = false := by simp [b1]
            clear hm b0 b1
            go_wp2_with fail
            go_roundw
            case rel => exact ⟨k + 1, by omega, by go_num, by rw [HS.out]; exact HO.out.alloc _, HBr.out.alloc (by omega) _⟩
            case measure => simp [intOf]; omega
        · obtain rfl : k = n := by omega
          go_wp2_with fail
          go_ret
          exact ⟨_, rfl, by rw [HF.out hx]; exact hoi, hbel⟩
    · go_wp2_with fail
      refine (innF x 0 (sec - 1) _ hx).mono ?_
      rintro e w2 ⟨rfl, rfl⟩
      go_wp2_with fail
      go_ret
      exact ⟨_, rfl, by rw [HN.out hx]; exact World.ownsInts_nil _ _ _ _, HB.out⟩
  · have HN : Hid (arF sec n K x = []) := by
      show arF sec n K x = []
      unfold arF
      rw [if_neg (fun q => hok q.1)]
    generalize layOk sec n K = r at hok
    go_wp2_with fail
    go_ret
    exact ⟨_, rfl, by rw [HN.out]; exact World.ownsInts_nil _ _ _ _, HB.out⟩

end Go.Proofs.Ytmcaohablpaknaa
