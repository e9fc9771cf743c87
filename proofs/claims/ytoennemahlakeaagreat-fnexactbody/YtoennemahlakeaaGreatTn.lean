import Derived.Test.YtoennemahlakeaaGreatTj
import Derived.Test.YtoennemahlakeaaGreatLeaf
namespace Go.Proofs.YtoennemahlakeaaGreat
open Go.RowKit Go.Lib

theorem isWay94 (way : Int) (w : World) : Calls Tryz.prog 87 #[.int .i64 way] w fun e w' => e = .returned (.bool (decide (way = 1) || decide (way = -1))) ∧ w' = w := by
  by_cases h1 : way = 1
  · subst h1
    go_enter Tryz.func87, Tryz.ntmps87
    go_wp2_with fail
    go_ret
    exact ⟨rfl, rfl⟩
  · have h1' : (way == 1) = false := by simpa using h1
    obtain ⟨z, HZ⟩ : ∃ z, Hid ((decide (way = 1) || decide (way = -1)) = z) := ⟨_, rfl⟩
    rw [HZ.out]
    by_cases h2 : way = -1
    · subst h2
      have HT : Hid (z = true) := HZ.out.symm.trans rfl
      go_enter Tryz.func87, Tryz.ntmps87
      go_wp2_with fail
      go_ret
      exact ⟨by rw [HT.out]; rfl, rfl⟩
    · have h2' : (way == -1) = false := by simpa using h2
      have HT : Hid (z = false) := HZ.out.symm.trans (by rw [decide_eq_false h1, decide_eq_false h2]; rfl)
      clear h1 h2
      go_enter Tryz.func87, Tryz.ntmps87
      go_wp2_with fail
      go_ret
      exact ⟨by rw [HT.out]; rfl, rfl⟩
theorem place93 (a : Option Addr) (n cap : Nat) (x : Int) (w : World) (hn : n ≤ 1048576) :
    Calls Tryz.prog 86 #[.slice a n cap, .int .i64 x] w fun e w' => e = .returned (.bool (inB x 0 ((n : Int) - 1))) ∧ w' = w := by
  go_enter Tryz.func86, Tryz.ntmps86
  go_wp2_with fail
  refine (within43 x 0 ((n : Int) - 1) _).mono ?_
  rintro e w1 ⟨rfl, hw⟩
  have hw := hw.symm
  subst hw
  go_wp2_with fail
  go_ret
  exact ⟨rfl, rfl⟩
set_option maxHeartbeats 2000000 in
theorem isStep67 {v : Nv} (hn : v.n ≤ 100) (pa : Option Addr) (pc : Nat) (ja : Option Addr) (jc : Nat) (p way : Int) (w : World) :
    Calls Tryz.prog 56 #[.agg #[.slice pa v.n pc, .slice ja v.m jc], .agg #[.int .i64 p, .int .i64 way]] w fun e w' => e = .returned (.bool (stepB v p way)) ∧ Below w.heap.size w w' := by
  have S0 : Hid (Below w.heap.size w ((w.alloc (.cells #[.slice pa v.n pc, .slice ja v.m jc] 38)).alloc (.cells #[.int .i64 p, .int .i64 way] 79)) ∧ Box ((w.alloc (.cells #[.slice pa v.n pc, .slice ja v.m jc] 38)).alloc (.cells #[.int .i64 p, .int .i64 way] 79)) w.heap.size 38 #[.slice pa v.n pc, .slice ja v.m jc] ∧ Box ((w.alloc (.cells #[.slice pa v.n pc, .slice ja v.m jc] 38)).alloc (.cells #[.int .i64 p, .int .i64 way] 79)) (w.heap.size + 1) 79 #[.int .i64 p, .int .i64 way]) := ⟨bel2 _ _ _, (Box.new _ _ _).alloc _, by have := Box.new (w.alloc (.cells #[.slice pa v.n pc, .slice ja v.m jc] 38)) 79 #[.int .i64 p, .int .i64 way]; simpa using this⟩
  obtain ⟨R, HR⟩ : ∃ R, Hid (stepB v p way = R) := ⟨_, rfl⟩
  rw [HR.out]
  go_enter Tryz.func56, Tryz.ntmps56
  go_upto_region 1 with fail
  generalize ((w.alloc (.cells #[.slice pa v.n pc, .slice ja v.m jc] 38)).alloc (.cells #[.int .i64 p, .int .i64 way] 79)) = V0 at S0 ⊢
  have n0 : V0.cell? ⟨w.heap.size, 0, none⟩ = some (.slice pa v.n pc) := S0.out.2.1.cell 0
  have s0 : V0.cell? ⟨w.heap.size + 1, 0, none⟩ = some (.int .i64 p) := S0.out.2.2.cell 0
  have s1 : V0.cell? ⟨w.heap.size + 1, 1, none⟩ = some (.int .i64 way) := S0.out.2.2.cell 1
  go_wp2_with fail
  refine (place93 pa v.n pc p V0 (by omega)).mono ?_
  rintro e w1 ⟨he, hw⟩
  have hw := hw.symm
  subst hw
  obtain ⟨u, HU⟩ : ∃ u, Hid (inB p 0 ((v.n : Int) - 1) = u) := ⟨_, rfl⟩
  rw [HU.out] at he
  subst he
  cases u with
  | false =>
    have HT : Hid (R = false) := HR.out.symm.trans (by rw [stepB, HU.out]; rfl)
    go_wp2_with fail
    go_ret
    exact ⟨by rw [HT.out]; rfl, S0.out.1⟩
  | true =>
    have HT : Hid (R = (decide (way = 1) || decide (way = -1))) := HR.out.symm.trans (by rw [stepB, HU.out]; rfl)
    go_wp2_with fail
    refine (isWay94 way V0).mono ?_
    rw [← HT.out]
    rintro e w2 ⟨rfl, hw⟩
    have hw := hw.symm
    subst hw
    go_wp2_with fail
    go_ret
    exact ⟨rfl, S0.out.1⟩
set_option maxRecDepth 100000 in
set_option maxHeartbeats 8000000 in
theorem isSpot66 {v : Nv} (ok : v.Ok) (pa : Option Addr) (pc : Nat) (ja : Option Addr) (jc : Nat) (p a way : Int) (w : World) (hP : PsAt 0 w pa v.n v.P) :
    Calls Tryz.prog 54 #[.agg #[.slice pa v.n pc, .slice ja v.m jc], .agg #[.int .i64 p, .int .i64 a, .int .i64 way]] w fun e w' => e = .returned (.bool (spotB v p a way)) ∧ Below w.heap.size w w' := by
  have hn := ok.n1
  obtain ⟨R, HR⟩ : ∃ R, Hid (spotB v p a way = R) := ⟨_, rfl⟩
  rw [HR.out]
  obtain ⟨u, HI⟩ : ∃ u, Hid (stepB v p way = u) := ⟨_, rfl⟩
  cases u with
  | false =>
    have HT : Hid (R = false) := HR.out.symm.trans (by rw [spotB, ← stepB, HI.out]; rfl)
    clear hP ok
    have S0 : Hid (Below w.heap.size w ((w.alloc (.cells #[.slice pa v.n pc, .slice ja v.m jc] 38)).alloc (.cells #[.int .i64 p, .int .i64 a, .int .i64 way] 40)) ∧ Box ((w.alloc (.cells #[.slice pa v.n pc, .slice ja v.m jc] 38)).alloc (.cells #[.int .i64 p, .int .i64 a, .int .i64 way] 40)) w.heap.size 38 #[.slice pa v.n pc, .slice ja v.m jc] ∧ Box ((w.alloc (.cells #[.slice pa v.n pc, .slice ja v.m jc] 38)).alloc (.cells #[.int .i64 p, .int .i64 a, .int .i64 way] 40)) (w.heap.size + 1) 40 #[.int .i64 p, .int .i64 a, .int .i64 way]) := ⟨bel2 _ _ _, (Box.new _ _ _).alloc _, by have := Box.new (w.alloc (.cells #[.slice pa v.n pc, .slice ja v.m jc] 38)) 40 #[.int .i64 p, .int .i64 a, .int .i64 way]; simpa using this⟩
    go_enter Tryz.func54, Tryz.ntmps54
    go_upto_region 1 with fail
    generalize ((w.alloc (.cells #[.slice pa v.n pc, .slice ja v.m jc] 38)).alloc (.cells #[.int .i64 p, .int .i64 a, .int .i64 way] 40)) = V0 at S0 ⊢
    have n0 : V0.cell? ⟨w.heap.size, 0, none⟩ = some (.slice pa v.n pc) := S0.out.2.1.cell 0
    have n1 : V0.cell? ⟨w.heap.size, 1, none⟩ = some (.slice ja v.m jc) := S0.out.2.1.cell 1
    have s0 : V0.cell? ⟨w.heap.size + 1, 0, none⟩ = some (.int .i64 p) := S0.out.2.2.cell 0
    have s1 : V0.cell? ⟨w.heap.size + 1, 1, none⟩ = some (.int .i64 a) := S0.out.2.2.cell 1
    have s2 : V0.cell? ⟨w.heap.size + 1, 2, none⟩ = some (.int .i64 way) := S0.out.2.2.cell 2
    have MD : Hid (Below w.heap.size w V0.drew ∧ Box V0.drew w.heap.size 38 #[.slice pa v.n pc, .slice ja v.m jc] ∧ Box V0.drew (w.heap.size + 1) 40 #[.int .i64 p, .int .i64 a, .int .i64 way]) := ⟨S0.out.1.drew, S0.out.2.1.drew, S0.out.2.2.drew⟩
    go_wp2_with fail
    refine wp_region_held_drew (S := (fun wx : World => wx.cell? ⟨w.heap.size, 0, none⟩ = some (.slice pa v.n pc) ∧ wx.cell? ⟨w.heap.size, 1, none⟩ = some (.slice ja v.m jc) ∧ wx.cell? ⟨w.heap.size + 1, 0, none⟩ = some (.int .i64 p) ∧ wx.cell? ⟨w.heap.size + 1, 1, none⟩ = some (.int .i64 a) ∧ wx.cell? ⟨w.heap.size + 1, 2, none⟩ = some (.int .i64 way))) (by kernel_rfl) ?_ (fun hHeld => ?_)
    · exact ⟨n0, n1, s0, s1, s2⟩
    refine tk 0 ?_
    refine tk 1 ?_
    refine rl 2 fun K hK => ?_
    go_simp
    refine (step79 p a way _).mono ?_
    rintro e w1 ⟨rfl, hb1⟩
    have B1 := MD.out.1.trans (hb1.mono MD.out.1.size)
    have N1 := MD.out.2.1.mono hb1 (Nat.le_refl _)
    have S1 := MD.out.2.2.mono hb1 (Nat.le_refl _)
    go_wp2_with fail
    refine hK.out _ _ ?_ (fun hHeld2 => ?_)
    · exact ⟨N1.cell 0, N1.cell 1, S1.cell 0, S1.cell 1, S1.cell 2⟩
    clear hK K
    refine rl 3 fun K hK => ?_
    go_simp
    refine (isStep67 hn pa pc ja jc p way _).mono ?_
    rintro e w2 ⟨he, hb2⟩
    rw [HI.out] at he
    subst he
    have B2 := B1.trans (hb2.mono B1.size)
    have N2 := N1.mono hb2 (Nat.le_refl _)
    have S2 := S1.mono hb2 (Nat.le_refl _)
    go_wp2_with fail
    refine hK.out _ _ ?_ (fun hHeld3 => ?_)
    · exact ⟨N2.cell 0, N2.cell 1, S2.cell 0, S2.cell 1, S2.cell 2⟩
    clear hK K
    refine tk 4 ?_
    refine tf 5 ?_
    refine tf 6 ?_
    refine tf 7 ?_
    refine tf 8 ?_
    refine tf 9 ?_
    refine tf 10 ?_
    refine tf 11 ?_
    refine tf 12 ?_
    refine tf 13 ?_
    refine tf 14 ?_
    refine tk 15 ?_
    refine tk 16 ?_
    refine wpAnyH_done (by kernel_rfl) ?_ _
    have HE : Hid (Below w.heap.size w w2) := B2
    go_wp2_with fail
    go_ret
    exact ⟨by rw [HT.out]; rfl, HE.out⟩
  | true =>
    obtain ⟨q, rfl, hq, _⟩ := step_nat HI.out
    obtain ⟨b, off, rfl, _, hb, hc⟩ := hP (by omega)
    have HC1 : Hid (b < w.heap.size ∧ w.cell? ⟨b, off + q * 4 + 1, none⟩ = some (.int .i64 (v.P q).ln)) := ⟨hb, (hc q hq).2.1⟩
    have hpi : (q : Int) < (v.n : Int) := by omega
    have hp0 : (0 : Int) ≤ (q : Int) := by omega
    obtain ⟨z, HA⟩ : ∃ z, Hid (inB a 0 (v.P q).ln = z) := ⟨_, rfl⟩
    have HT : Hid (R = z) := HR.out.symm.trans (by rw [spotB, ← stepB, HI.out, Int.toNat_natCast, HA.out]; rfl)
    clear hc hP ok hb
    have S0 : Hid (Below w.heap.size w ((w.alloc (.cells #[.slice (some ⟨b, off, none⟩) v.n pc, .slice ja v.m jc] 38)).alloc (.cells #[.int .i64 (q : Int), .int .i64 a, .int .i64 way] 40)) ∧ Box ((w.alloc (.cells #[.slice (some ⟨b, off, none⟩) v.n pc, .slice ja v.m jc] 38)).alloc (.cells #[.int .i64 (q : Int), .int .i64 a, .int .i64 way] 40)) w.heap.size 38 #[.slice (some ⟨b, off, none⟩) v.n pc, .slice ja v.m jc] ∧ Box ((w.alloc (.cells #[.slice (some ⟨b, off, none⟩) v.n pc, .slice ja v.m jc] 38)).alloc (.cells #[.int .i64 (q : Int), .int .i64 a, .int .i64 way] 40)) (w.heap.size + 1) 40 #[.int .i64 (q : Int), .int .i64 a, .int .i64 way]) := ⟨bel2 _ _ _, (Box.new _ _ _).alloc _, by have := Box.new (w.alloc (.cells #[.slice (some ⟨b, off, none⟩) v.n pc, .slice ja v.m jc] 38)) 40 #[.int .i64 (q : Int), .int .i64 a, .int .i64 way]; simpa using this⟩
    go_enter Tryz.func54, Tryz.ntmps54
    go_upto_region 1 with fail
    generalize ((w.alloc (.cells #[.slice (some ⟨b, off, none⟩) v.n pc, .slice ja v.m jc] 38)).alloc (.cells #[.int .i64 (q : Int), .int .i64 a, .int .i64 way] 40)) = V0 at S0 ⊢
    have c1 : V0.cell? ⟨b, off + q * 4 + 1, none⟩ = some (.int .i64 (v.P q).ln) := cell_keep S0.out.1 HC1.out.1 HC1.out.2
    have n0 : V0.cell? ⟨w.heap.size, 0, none⟩ = some (.slice (some ⟨b, off, none⟩) v.n pc) := S0.out.2.1.cell 0
    have n1 : V0.cell? ⟨w.heap.size, 1, none⟩ = some (.slice ja v.m jc) := S0.out.2.1.cell 1
    have s0 : V0.cell? ⟨w.heap.size + 1, 0, none⟩ = some (.int .i64 (q : Int)) := S0.out.2.2.cell 0
    have s1 : V0.cell? ⟨w.heap.size + 1, 1, none⟩ = some (.int .i64 a) := S0.out.2.2.cell 1
    have s2 : V0.cell? ⟨w.heap.size + 1, 2, none⟩ = some (.int .i64 way) := S0.out.2.2.cell 2
    have MD : Hid (Below w.heap.size w V0.drew ∧ Box V0.drew w.heap.size 38 #[.slice (some ⟨b, off, none⟩) v.n pc, .slice ja v.m jc] ∧ Box V0.drew (w.heap.size + 1) 40 #[.int .i64 (q : Int), .int .i64 a, .int .i64 way]) := ⟨S0.out.1.drew, S0.out.2.1.drew, S0.out.2.2.drew⟩
    go_wp2_with fail
    refine wp_region_held_drew (S := (fun wx : World => wx.cell? ⟨w.heap.size, 0, none⟩ = some (.slice (some ⟨b, off, none⟩) v.n pc) ∧ wx.cell? ⟨w.heap.size, 1, none⟩ = some (.slice ja v.m jc) ∧ wx.cell? ⟨w.heap.size + 1, 0, none⟩ = some (.int .i64 (q : Int)) ∧ wx.cell? ⟨w.heap.size + 1, 1, none⟩ = some (.int .i64 a) ∧ wx.cell? ⟨w.heap.size + 1, 2, none⟩ = some (.int .i64 way) ∧ wx.cell? ⟨b, off + q * 4 + 1, none⟩ = some (.int .i64 (v.P q).ln))) (by kernel_rfl) ?_ (fun hHeld => ?_)
    · exact ⟨n0, n1, s0, s1, s2, c1⟩
    refine tk 0 ?_
    refine tk 1 ?_
    refine rl 2 fun K hK => ?_
    go_simp
    refine (step79 (q : Int) a way _).mono ?_
    rintro e w1 ⟨rfl, hb1⟩
    have B1 := MD.out.1.trans (hb1.mono MD.out.1.size)
    have N1 := MD.out.2.1.mono hb1 (Nat.le_refl _)
    have S1 := MD.out.2.2.mono hb1 (Nat.le_refl _)
    go_wp2_with fail
    refine hK.out _ _ ?_ (fun hHeld2 => ?_)
    · exact ⟨N1.cell 0, N1.cell 1, S1.cell 0, S1.cell 1, S1.cell 2, cell_keep B1 HC1.out.1 HC1.out.2⟩
    clear hK K
    refine rl 3 fun K hK => ?_
    go_simp
    refine (isStep67 hn (some ⟨b, off, none⟩) pc ja jc (q : Int) way _).mono ?_
    rintro e w2 ⟨he, hb2⟩
    rw [HI.out] at he
    subst he
    have B2 := B1.trans (hb2.mono B1.size)
    have N2 := N1.mono hb2 (Nat.le_refl _)
    have S2 := S1.mono hb2 (Nat.le_refl _)
    go_wp2_with fail
    refine hK.out _ _ ?_ (fun hHeld3 => ?_)
    · exact ⟨N2.cell 0, N2.cell 1, S2.cell 0, S2.cell 1, S2.cell 2, cell_keep B2 HC1.out.1 HC1.out.2⟩
    clear hK K
    refine tk 4 ?_
    refine tk 5 ?_
    refine tk 6 ?_
    refine tk 7 ?_
    refine tk 8 ?_
    refine tk 9 ?_
    refine tk 10 ?_
    refine tk 11 ?_
    refine tk 12 ?_
    refine tk 13 ?_
    refine rl 14 fun K hK => ?_
    go_simp
    refine (within43 a 0 (v.P q).ln _).mono ?_
    rintro e w3 ⟨he, hw3⟩
    rw [HA.out] at he
    subst he
    have hw3 := hw3.symm
    subst hw3
    go_wp2_with fail
    refine hK.out _ _ ?_ (fun hHeld14 => ?_)
    · exact ⟨N2.cell 0, N2.cell 1, S2.cell 0, S2.cell 1, S2.cell 2, cell_keep B2 HC1.out.1 HC1.out.2⟩
    clear hK K
    refine tk 15 ?_
    refine tk 16 ?_
    refine wpAnyH_done (by kernel_rfl) ?_ _
    have HE : Hid (Below w.heap.size w w2) := B2
    go_wp2_with fail
    go_ret
    exact ⟨by rw [HT.out]; rfl, HE.out⟩

theorem bodyOf46 (fp fa fw lg : Int) (ba : Option Addr) (nb bk : Nat) (w : World) :
    Calls Tryz.prog 58 #[.agg #[.int .i64 fp, .int .i64 fa, .int .i64 fw, .int .i64 lg, .slice ba nb bk]] w fun e w' => e = .returned (.agg #[.int .i64 fp, .int .i64 fa, .int .i64 fw, .int .i64 lg, .slice ba nb bk]) ∧ Below w.heap.size w w' := by
  go_enter Tryz.func58, Tryz.ntmps58
  go_wp2
  exact bodyPost_ret (v := .agg #[.int .i64 fp, .int .i64 fa, .int .i64 fw, .int .i64 lg, .slice ba nb bk]) (by simp [results, Tryz.results58, go_sem]) rfl ⟨rfl, bel2 _ _ _⟩

end Go.Proofs.YtoennemahlakeaaGreat
