import Derived.Test.YtjhmaofjmalglaaGreatZbe
import Derived.Test.YtjhmaofjmalglaaGreatZau
import Derived.Test.YtjhmaofjmalglaaGreatZas
import Derived.Test.YtjhmaofjmalglaaGreatZat
namespace Go.Proofs.YtjhmaofjmalglaaGreat
open Go.RowKit Go.Lib
theorem infoStep : (Tryz.prog.info? 74).map (fun i => (i.zero, i.size, i.bytes)) = some (some (.agg #[.int .i64 0, .int .i64 0]), 2, 16) := by kernel_rfl
set_option maxHeartbeats 4000000 in
set_option maxRecDepth 100000 in
theorem grow108 (n : Nat) (F : Nat → Nat → Value) (w : World) (hn : n ≤ 2097152) :
  Calls Tryz.prog 150 #[.slice none 0 0, .int .i64 n] w fun e w' => ∃ v, e = .returned v ∧ VOwn w.heap.size 74 2 w' v 0 F ∧ Below w.heap.size w w' := by
 obtain ⟨i0, hi0, hz0, hs0, hb0⟩ := info_parts infoStep
 have h1 : ¬ ((n : Int) < 0) := by omega
 by_cases h0 : n = 0
 ·
  subst h0
  go_enter Tryz.func150, Tryz.ntmps150
  go_wp2
  go_ret
  exact ⟨_, rfl, VOwn.nil _ _ _ _ _, Below.refl _ _⟩
 ·
  have h4 : (0 : Int) < (n : Int) := by omega
  have hold : (Builtin.firstCells i0.size 0 (.slice none 0 0)).run Tryz.prog w.drew = .ok ([] : List Value).toArray w.drew := run_firstCells_none w.drew i0.size 0 0 0
  have hrz : ∀ ty, (Builtin.append_ #[31, 3] ty #[.slice none 0 0, .int .i64 (n : Int)]).run Tryz.prog w =
    .ok (.slice (some ⟨w.heap.size, 0, none⟩) (0 + n) (grownCap w (0 + n) 0 74)) (w.drew.alloc (.cells (([] : List Value).toArray ++ Builtin.zeroCells (Value.agg #[.int .i64 0, .int .i64 0]).cells n ++ Builtin.zeroCells (Value.agg #[.int .i64 0, .int .i64 0]).cells (grownCap w (0 + n) 0 74 - (0 + n))) 74)) := fun ty =>
   run_append_grow_zeros w 31 3 ty 74 i0 _ .i64 .i64 Tryz.underlying31 Tryz.underlying3 hi0 hz0 none 0 0 [] hold n (by omega) (by omega) (by omega) (by omega) (by rw [hb0]; omega) (by rw [hb0]; have := growslice_fits (need := 0 + n) (old := 0) (bytes := 16) (by omega) (by omega); exact this)
  obtain ⟨G, hG⟩ : ∃ G, G = grownCap w (0 + n) 0 74 := ⟨_, rfl⟩
  have hGn : 0 + n ≤ G := by rw [hG]; exact grownCap_ge w _ _ _
  have hGm : G ≤ maxLen := by rw [hG]; exact grownCap_le_maxLen w (0 + n) 0 74 (by unfold maxLen; omega)
  have hG63 : G ≤ 9223372036854775807 := by unfold maxLen at hGm; omega
  rw [← hG] at hrz
  have HO : Hid ((w.alloc (.cells (Builtin.zeroCells #[.int .i64 0, .int .i64 0] n ++ Builtin.zeroCells #[.int .i64 0, .int .i64 0] (G - n)) 74)).drew.ownsRow w.heap.size 74 2 (.slice (some ⟨w.heap.size, 0, none⟩) 0 G) 0 []) := World.ownsRow_made w _ G nr hGm (by
   simp only [Array.size_append, size_zeroCells]
   show n * 2 + (G - n) * 2 = G * 2
   omega)
  have HB : Hid (Below w.heap.size w (w.alloc (.cells (Builtin.zeroCells #[.int .i64 0, .int .i64 0] n ++ Builtin.zeroCells #[.int .i64 0, .int .i64 0] (G - n)) 74)).drew) := (bel1 _ _).drew
  clear hold hG
  go_enter Tryz.func150, Tryz.ntmps150
  go_wp2_with (at_builtin; refine wpList_append_run _ rfl _ _ _ _ rfl _ _ rfl rfl _ _ (hrz _) ?_)
  all_goals
   go_ret
   exact ⟨_, rfl, VOwn.of_row HO.out, HB.out⟩
set_option maxHeartbeats 4000000 in
set_option maxRecDepth 100000 in
theorem concat107 (q lb lo nl lc fb fo nf fc : Nat) (L F : Nat → Nat → Int) (w : World) (hl : nl ≤ 1048576) (hf : nf ≤ 1048576) (hq : Box w q 31 #[.slice (some ⟨lb, lo, none⟩) nl lc, .slice (some ⟨fb, fo, none⟩) nf fc]) (hL : VsAt 2 0 w (some ⟨lb, lo, none⟩) nl (intF L)) (hF : VsAt 2 0 w (some ⟨fb, fo, none⟩) nf (intF F)) :
  Calls Tryz.prog 147 #[.slice (some ⟨q, 0, none⟩) 2 2] w fun e w' => ∃ v, e = .returned v ∧ VOwn w.heap.size 74 2 w' v (nl + nf) (intF (cat nl L F)) ∧ Below w.heap.size w w' := by
 obtain ⟨i0, hi0, hz0, hs0, hb0⟩ := info_parts infoStep
 have c0 := hq.cel 0
 have c1 := hq.cel 1
 have H : Hid (Box w q 31 #[.slice (some ⟨lb, lo, none⟩) nl lc, .slice (some ⟨fb, fo, none⟩) nf fc] ∧ VsAt 2 0 w (some ⟨lb, lo, none⟩) nl (intF L) ∧ VsAt 2 0 w (some ⟨fb, fo, none⟩) nf (intF F)) := ⟨hq, hL, hF⟩
 clear hq hL hF
 have n1 : ¬ (nl : Int) < 0 := by omega
 have n2 : ¬ (nl : Int) + (nf : Int) < 0 := by omega
 go_enter Tryz.func147, Tryz.ntmps147
 go_wp2_with fail
 refine wp_loop_rounds 3 ?_
 rw [rounds_succ]
 go_wp2_with fail
 rw [rounds_succ]
 go_wp2_with fail
 rw [rounds_succ]
 go_wp2_with fail
 have hsum : (nl : Int) + (nf : Int) = ((nl + nf : Nat) : Int) := by omega
 rw [hsum]
 refine (grow108 (nl + nf) (intF (fun _ _ => 0)) _ (by omega)).mono ?_
 rintro e w1 ⟨v, rfl, ho, hb1⟩
 have HO : Hid (VOwn w.heap.size 74 2 w1 v 0 (intF (fun _ _ => 0)) ∧ Below w.heap.size w w1) := ⟨ho, hb1⟩
 have c0 := (H.out.1.mono hb1 nr).cel 0
 have c1 := (H.out.1.mono hb1 nr).cel 1
 clear ho hb1 hsum n1 n2
 go_wp2_with fail
 refine wp_loop_rounds 3 ?_
 rw [rounds_succ]
 go_wp2_with (at_builtin; go_must (refine wpList_vcat _ rfl _ _ 31 rfl w.heap.size 74 i0 _ 2 16 Tryz.underlying31 hi0 hz0 hs0 hb0 rfl (by decide) v 0 (fun _ _ => 0) rfl HO.out.1 lb lo nl lc L rfl (H.out.2.1.mono nr HO.out.2 nr) (by simp only [maxLen]; omega) (by omega) HO.out.2.size (Halt.mk ?_)))
 intro v2 w2 o2 g2
 have o2 : VOwn w.heap.size 74 2 w2 v2 nl (intF L) := (by simpa using o2 : VOwn w.heap.size 74 2 w2 v2 nl (intF (cat 0 (fun _ _ => 0) L))).congr fun i _ j _ => by simp [cat]
 have X1 := H.out.1.mono HO.out.2 nr
 have X2 := X1.grown g2 (fun e => HO.out.1.off X1 (by decide) e rfl)
 have B2 : Below w.heap.size w w2 := HO.out.2.grown g2 HO.out.2.size (fun j hj => (HO.out.1.lt hj).1)
 have HO2 : Hid (VOwn w.heap.size 74 2 w2 v2 nl (intF L) ∧ Below w.heap.size w w2) := ⟨o2, B2⟩
 have c1 := X2.cel 1
 clear o2 g2 X1 X2 B2 HO c0
 go_wp2_with fail
 rw [rounds_succ]
 go_wp2_with (at_builtin; go_must (refine wpList_vcat _ rfl _ _ 31 rfl w.heap.size 74 i0 _ 2 16 Tryz.underlying31 hi0 hz0 hs0 hb0 rfl (by decide) v2 nl L rfl HO2.out.1 fb fo nf fc F rfl (H.out.2.2.mono nr HO2.out.2 nr) (by simp only [maxLen]; omega) (by omega) HO2.out.2.size (Halt.mk ?_)))
 intro v3 w3 o3 g3
 have B3 : Below w.heap.size w w3 := HO2.out.2.grown g3 HO2.out.2.size (fun j hj => (HO2.out.1.lt hj).1)
 have HO3 : Hid (VOwn w.heap.size 74 2 w3 v3 (nl + nf) (intF (cat nl L F)) ∧ Below w.heap.size w w3) := ⟨o3, B3⟩
 clear o3 g3 B3 HO2 c1
 go_wp2_with fail
 rw [rounds_succ]
 go_wp2_with fail
 go_ret
 exact ⟨_, rfl, HO3.out.1, HO3.out.2⟩
def stF (fp fw : Int) (B : Nat → Nat → Int) (i j : Nat) : Int := if j = 0 then ahP fp B i else ahW fw B i
set_option maxRecDepth 100000 in
set_option maxHeartbeats 4000000 in
theorem steps100 (fp fa fw lg : Int) (nb : Nat) (B : Nat → Nat → Int) (bb bo bk : Nat) (w : World) (hnb : nb ≤ 1048576) (hB : NsAt 2 0 w (some ⟨bb, bo, none⟩) nb B) :
  Calls Tryz.prog 135 #[.agg #[.int .i64 fp, .int .i64 fa, .int .i64 fw, .int .i64 lg, .slice (some ⟨bb, bo, none⟩) nb bk]] w fun e w' => ∃ vq, e = .returned vq ∧ VOwn w.heap.size 74 2 w' vq (nb + 1) (intF (stF fp fw B)) ∧ Below w.heap.size w w' := by
 have HB : Hid (VsAt 2 0 w (some ⟨bb, bo, none⟩) nb (intF B)) := hB
 have S0 : Hid (Below w.heap.size w (w.alloc (.cells #[.int .i64 fp, .int .i64 fa, .int .i64 fw, .int .i64 lg, .slice (some ⟨bb, bo, none⟩) nb bk] 90)) ∧ Box (w.alloc (.cells #[.int .i64 fp, .int .i64 fa, .int .i64 fw, .int .i64 lg, .slice (some ⟨bb, bo, none⟩) nb bk] 90)) (w.heap.size) 90 #[.int .i64 fp, .int .i64 fa, .int .i64 fw, .int .i64 lg, .slice (some ⟨bb, bo, none⟩) nb bk]) := ⟨bel1 _ _, Box.new _ _ _⟩
 clear hB
 go_enter Tryz.func135, Tryz.ntmps135
 go_upto_region 1 with fail
 generalize w.alloc (.cells #[.int .i64 fp, .int .i64 fa, .int .i64 fw, .int .i64 lg, .slice (some ⟨bb, bo, none⟩) nb bk] 90) = V0 at S0 ⊢
 have MD : Hid (Below w.heap.size w V0.drew ∧ Box V0.drew (w.heap.size) 90 #[.int .i64 fp, .int .i64 fa, .int .i64 fw, .int .i64 lg, .slice (some ⟨bb, bo, none⟩) nb bk]) := ⟨S0.out.1.drew, S0.out.2.drew⟩
 have a0 := S0.out.2.cel 0
 have a1 := S0.out.2.cel 1
 have a2 := S0.out.2.cel 2
 have a3 := S0.out.2.cel 3
 have a4 := S0.out.2.cel 4
 go_wp2_with fail
 refine wp_region_held_drew (S := (fun wx : World => wx.cell? ⟨w.heap.size, 0, none⟩ = some (.int .i64 fp) ∧ wx.cell? ⟨w.heap.size, 1, none⟩ = some (.int .i64 fa) ∧ wx.cell? ⟨w.heap.size, 2, none⟩ = some (.int .i64 fw) ∧ wx.cell? ⟨w.heap.size, 3, none⟩ = some (.int .i64 lg) ∧ wx.cell? ⟨w.heap.size, 4, none⟩ = some (.slice (some ⟨bb, bo, none⟩) nb bk))) (by kernel_rfl) ?_ (fun hHeld => ?_)
 ·
  exact ⟨a0, a1, a2, a3, a4⟩
 refine tk 0 ?_
 refine tk 1 ?_
 refine tk 4 ?_
 refine tk 5 ?_
 refine rl 2 fun K hK => ?_
 go_simp
 refine (step79 fp fa fw _).mono ?_
 rintro e w1 ⟨rfl, hb1⟩
 have M1 : Hid (Below w.heap.size w w1 ∧ Box w1 (w.heap.size) 90 #[.int .i64 fp, .int .i64 fa, .int .i64 fw, .int .i64 lg, .slice (some ⟨bb, bo, none⟩) nb bk]) := ⟨MD.out.1.trans (hb1.mono MD.out.1.size), MD.out.2.mono hb1 nr⟩
 clear hb1
 go_wp2_with fail
 refine hK.out _ _ ?_ (fun hHeld2 => ?_)
 ·
  exact ⟨M1.out.2.cell 0, M1.out.2.cell 1, M1.out.2.cell 2, M1.out.2.cell 3, M1.out.2.cell 4⟩
 clear hK K
 refine rl 3 fun K hK => ?_
 have M2 : Hid (Below w.heap.size w (w1.alloc (.cells #[.int .i64 fp, .int .i64 fw] 74)) ∧ Box (w1.alloc (.cells #[.int .i64 fp, .int .i64 fw] 74)) (w.heap.size) 90 #[.int .i64 fp, .int .i64 fa, .int .i64 fw, .int .i64 lg, .slice (some ⟨bb, bo, none⟩) nb bk] ∧ Box (w1.alloc (.cells #[.int .i64 fp, .int .i64 fw] 74)) w1.heap.size 74 #[.int .i64 fp, .int .i64 fw]) := ⟨M1.out.1.alloc M1.out.1.size _, M1.out.2.alloc _, Box.new _ _ _⟩
 go_simp
 refine hK.out _ _ ?_ (fun hHeld3 => ?_)
 ·
  exact ⟨M2.out.2.1.cell 0, M2.out.2.1.cell 1, M2.out.2.1.cell 2, M2.out.2.1.cell 3, M2.out.2.1.cell 4⟩
 clear hK K
 clear hHeld3
 generalize (w1.alloc (.cells #[.int .i64 fp, .int .i64 fw] 74)) = w2 at M2 ⊢
 generalize w1.heap.size = q1 at M2 ⊢
 refine rl 6 fun K hK => ?_
 have M3 : Hid (Below w.heap.size w (w2.alloc (.cells #[.slice (some ⟨q1, 0, none⟩) 1 1, .slice (some ⟨bb, bo, none⟩) nb bk] 31)) ∧ Box (w2.alloc (.cells #[.slice (some ⟨q1, 0, none⟩) 1 1, .slice (some ⟨bb, bo, none⟩) nb bk] 31)) (w.heap.size) 90 #[.int .i64 fp, .int .i64 fa, .int .i64 fw, .int .i64 lg, .slice (some ⟨bb, bo, none⟩) nb bk] ∧ Box (w2.alloc (.cells #[.slice (some ⟨q1, 0, none⟩) 1 1, .slice (some ⟨bb, bo, none⟩) nb bk] 31)) (q1) 74 #[.int .i64 fp, .int .i64 fw] ∧ Box (w2.alloc (.cells #[.slice (some ⟨q1, 0, none⟩) 1 1, .slice (some ⟨bb, bo, none⟩) nb bk] 31)) w2.heap.size 31 #[.slice (some ⟨q1, 0, none⟩) 1 1, .slice (some ⟨bb, bo, none⟩) nb bk]) := ⟨M2.out.1.alloc M2.out.1.size _, M2.out.2.1.alloc _, M2.out.2.2.alloc _, Box.new _ _ _⟩
 go_simp
 refine hK.out _ _ ?_ (fun hHeld6 => ?_)
 ·
  exact ⟨M3.out.2.1.cell 0, M3.out.2.1.cell 1, M3.out.2.1.cell 2, M3.out.2.1.cell 3, M3.out.2.1.cell 4⟩
 clear hK K
 clear hHeld6
 generalize (w2.alloc (.cells #[.slice (some ⟨q1, 0, none⟩) 1 1, .slice (some ⟨bb, bo, none⟩) nb bk] 31)) = w3 at M3 ⊢
 generalize w2.heap.size = q2 at M3 ⊢
 refine rl 7 fun K hK => ?_
 go_simp
 refine (concat107 q2 q1 0 1 1 bb bo nb bk (fun _ c => if c = 0 then fp else fw) B w3 (by omega) hnb M3.out.2.2.2 (fun _ => ⟨q1, 0, rfl, Nat.zero_le _, M3.out.2.2.1.lt, fun i hi j hj => by
  obtain rfl : i = 0 := by omega
  rcases (show j = 0 ∨ j = 1 by omega) with rfl | rfl
  ·
   exact M3.out.2.2.1.cell 0
  ·
   exact M3.out.2.2.1.cell 1⟩) (HB.out.mono nr M3.out.1 nr)).mono ?_
 rintro e w4 ⟨vq, rfl, ho, hb4⟩
 have M4 : Hid (Below w.heap.size w w4 ∧ Box w4 (w.heap.size) 90 #[.int .i64 fp, .int .i64 fa, .int .i64 fw, .int .i64 lg, .slice (some ⟨bb, bo, none⟩) nb bk]) := ⟨M3.out.1.trans (hb4.mono M3.out.1.size), M3.out.2.1.mono hb4 nr⟩
 have HO : Hid (VOwn w.heap.size 74 2 w4 vq (nb + 1) (intF (stF fp fw B))) := by
  have h9 := ho.keep M3.out.1.size fun _ _ => rfl
  rw [Nat.add_comm 1 nb] at h9
  exact h9.congr fun i _ j _ => by
   cases i with
   | zero => simp [intF, cat, stF, ahP, ahW]
   | succ i => rcases (show j = 0 ∨ j = 1 by omega) with rfl | rfl <;> simp [intF, cat, stF, ahP, ahW]
 clear ho hb4
 go_wp2_with fail
 refine hK.out _ _ ?_ (fun hHeld7 => ?_)
 ·
  exact ⟨M4.out.2.cell 0, M4.out.2.cell 1, M4.out.2.cell 2, M4.out.2.cell 3, M4.out.2.cell 4⟩
 clear hK K
 refine tk 8 ?_
 refine wpAnyH_done (by kernel_rfl) ?_ _
 have HE : Hid (Below w.heap.size w w4) := M4.out.1
 clear a0 a1 a2 a3 a4 S0 MD M1 M2 M3 M4
 go_wp2_with fail
 go_ret
 exact ⟨_, rfl, HO.out, HE.out⟩
end Go.Proofs.YtjhmaofjmalglaaGreat
