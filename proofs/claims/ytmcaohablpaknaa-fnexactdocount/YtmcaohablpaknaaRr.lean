import Derived.Test.YtmcaohablpaknaaAr
import Derived.Deep.RegionHeld3
import Derived.Deep.AppendLies
namespace Go.Proofs.Ytmcaohablpaknaa
open Go.RowKit Go.ChangeShapes Go.WideShapes

theorem run_makeMap_hint {P : Program} (t : TypeId) {a b : TypeId} (ht : P.underlying t = some (.map a b)) (x : Int) (w : World) : (Instr.makeMap t (some (.int .i64 x))).run P w = .ok (.map (some w.heap.size)) (w.alloc (.map #[] 0)) := by
  simp [Instr.makeMap, run_underlying ht, Result.andThen, asInt, asIntOf]

set_option maxRecDepth 100000 in
set_option maxHeartbeats 8000000 in
theorem ringsI (sec : Int) (a : Option Addr) (n cap : Nat) (K : Nat → Nat → Int) (w : World) (hG : LayGood sec n K) (hE : VsAt 2 0 w a n (intF K)) :
    Calls Try.prog 43 #[.agg #[.int .i64 sec, .slice a n cap]] w fun e w' => ∃ b, w.heap.size ≤ b ∧ e = .returned (.map (some b)) ∧ Rings w' b K n ∧ Below w.heap.size w w' := by
  obtain ⟨i0, hi, hz0, hz1, hz2⟩ := info_parts infoInt
  have HE : Hid (VsAt 2 0 w a n (intF K)) := hE
  have HG : Hid (LayGood sec n K) := hG
  have s1 := hG.s1
  have s2 := hG.s2
  have n120 : n ≤ 120 := hG.m
  clear hE hG
  have hmm := run_makeMap_hint 72 Try.underlying72 (sec + 1)
  go_enter Try.func43, Try.ntmps43
  go_wp2_with fail
  go_loopw [13] (fun i wr => ∃ k : Nat, k ≤ n ∧ i = .int .i64 k ∧ Rings wr (w.heap.size + 1) K k ∧ Below w.heap.size w wr) (fun i _ => n - (intOf i).toNat)
  case atStart => exact ⟨0, Nat.zero_le _, rfl, by have := Rings.made (w.alloc (.cells #[.int .i64 sec, .slice a n cap] 29)) K; simpa using this, bel2 _ _ _⟩
  case round =>
    obtain ⟨k, hk, rfl, hR, hbel⟩ := hrel
    by_cases hlt : k < n
    · obtain ⟨b, off, rfl, _, hb, hc⟩ := (HE.out.mono (Nat.le_refl _) hbel (Nat.le_refl _)) (by omega)
      have c0 : wr.cell? ⟨b, off + k * 2, none⟩ = some (.int .i64 (K k 0)) := hc k hlt 0 (by omega)
      have c1 : wr.cell? ⟨b, off + k * 2 + 1, none⟩ = some (.int .i64 (K k 1)) := hc k hlt 1 (by omega)
      have hw0 := hbel.size
      have hbl := hR.lt
      have hR0 := hR
      obtain ⟨D, g1, g2⟩ := (hR0.mono (bel1 wr (.cells #[.int .i64 (K k 0), .int .i64 (K k 1)] 68)) (Nat.le_refl _)).drew
      obtain ⟨v, zs, p1, p2, p3, p4, p5⟩ := gLook g1 (by simp only [maxLen]; omega) (key3 (x := K k 0) (by have := HG.out.f1 k hlt; have := HG.out.f2 k hlt; omega))
      have q0 := p1 (wr.alloc (.cells #[.int .i64 (K k 0), .int .i64 (K k 1)] 68)).drew rfl
      have q1 := p1 ((wr.alloc (.cells #[.int .i64 (K k 0), .int .i64 (K k 1)] 68)).drew.alloc (.cells #[.int .i64 (k : Int)] 3)) (Below.heap_alloc _ _ _ (by simp; omega))
      have q2 := p1 ((wr.alloc (.cells #[.int .i64 (K k 0), .int .i64 (K k 1)] 68)).alloc (.cells #[.int .i64 (k : Int)] 3)).drew (Below.heap_alloc _ _ _ (by simp; omega))
      have HR : Hid (Below w.heap.size w (wr.alloc (.cells #[.int .i64 (K k 0), .int .i64 (K k 1)] 68)).drew) := (hbel.alloc (by omega) _).drew
      have HO : Hid (World.ownsInts (wr.alloc (.cells #[.int .i64 (K k 0), .int .i64 (K k 1)] 68)).drew (w.heap.size + 1 + 1) 3 .i64 v zs) := p3
      have HK : Hid (World.groupBack (wr.alloc (.cells #[.int .i64 (K k 0), .int .i64 (K k 1)] 68)).drew Try.prog 72 3 (w.heap.size + 1 + 1) 3 .i64 (w.heap.size + 1) (2 * k) D (.int .i64 (K k 0)) (.int .i64 (K k 0)) v) := p5
      have HD : Hid ((∀ s : Int, -1000 ≤ s ∧ s ≤ 1000 → items (D.atKey (.int .i64 s) .nil) = lits .i64 (arN K s k)) ∧ D.atKey (.int .i64 (K k 0)) .nil = rowDatum .i64 v zs ∧ Maps.IsMap D) := ⟨g2, p2, groups_isMap g1⟩
      have hv1 : v.ownBlock ≠ some wr.heap.size := fun e => by
        obtain ⟨cur, hcur⟩ := ownsInts_kind p3 e
        have h2 : (wr.alloc (.cells #[.int .i64 (K k 0), .int .i64 (K k 1)] 68)).drew.heap[wr.heap.size]? = some (.cells #[.int .i64 (K k 0), .int .i64 (K k 1)] 68 (0, 0)) := Box.new wr 68 _
        rw [h2] at hcur
        simp at hcur
      clear hc hR hR0 hbel g1 g2 p1 p2 p3 p5
      go_wp2_with fail
      go_region_held3 (fun w' => w'.cell? ⟨wr.heap.size, 0, none⟩ = some (.int .i64 (K k 0)) ∧ w'.cell? ⟨wr.heap.size, 1, none⟩ = some (.int .i64 (K k 1)))
        (go_keep)
        ((refine step_append_lies _ (by rfl) _ _ _ (by rfl) (w.heap.size + 1 + 1) 3 i0 _ 1 8 Try.underlying33 hi hz0 hz1 hz2 rfl (by omega) v zs.length (zs.map (Value.int .i64)) (by rfl) (HO.out.1.alloc _) ⟨wr.heap.size + 1, 0, none⟩ 1 1 [.int .i64 k] (by rfl) (by rfl) (cell_one_new' _ _ _ (by simp)) (ints_oneCell .i64 [(k : Int)]) (by omega) (by unfold maxLen; omega) (by omega) (by simp; omega) (wr.heap.size + 1 + 1) (by simp) ?_; intro g gc w1 hown1 hgrow hat hgl; obtain ⟨w2, hup, hown2, hgrow2⟩ := HK.out w1 (.slice (some ⟨g, 0, none⟩) (zs.length + 1) gc) (zs ++ [(k : Int)]) ((World.grownBy_alloc _ _ _).trans hgrow) (HO.out.appended hown1 (WalkArith.wf_i64 (by omega))) (by simp; omega) (hat.elim (fun h => Or.inl (by rw [h]; rfl)) (fun h => Or.inr ⟨g, rfl, by simp; omega⟩)); have hs1 : wr.heap.size + 1 + 1 ≤ w1.heap.size := (by have := hgrow.size; simpa using this); have k0 : w1.cell? ⟨wr.heap.size, 0, none⟩ = some (.int .i64 (K k 0)) := (hgrow.cell_far ⟨wr.heap.size, 0, none⟩ (by simp; omega) (Ne.symm hv1)).trans (((Box.new wr 68 #[.int .i64 (K k 0), .int .i64 (K k 1)]).drew.alloc _).cell 0); have k1 : w1.cell? ⟨wr.heap.size, 1, none⟩ = some (.int .i64 (K k 1)) := (hgrow.cell_far ⟨wr.heap.size, 1, none⟩ (by simp; omega) (Ne.symm hv1)).trans (((Box.new wr 68 #[.int .i64 (K k 0), .int .i64 (K k 1)]).drew.alloc _).cell 1); have m0 : w2.cell? ⟨wr.heap.size, 0, none⟩ = some (.int .i64 (K k 0)) := (hgrow2.cell_far ⟨wr.heap.size, 0, none⟩ (by show wr.heap.size < w1.heap.size; omega) (by simp; omega)).trans k0; have m1 : w2.cell? ⟨wr.heap.size, 1, none⟩ = some (.int .i64 (K k 1)) := (hgrow2.cell_far ⟨wr.heap.size, 1, none⟩ (by show wr.heap.size < w1.heap.size; omega) (by simp; omega)).trans k1))
      all_goals
        have B2 : Below w.heap.size w w2 := HR.out.groups HO.out ((World.grownBy_alloc _ _ _).trans hgrow) hgrow2 (by simp; omega) (by omega) (by omega)
        have HO1 : Hid (w1.ownsInts (w.heap.size + 1 + 1) 3 .i64 (.slice (some ⟨g, 0, none⟩) (zs.length + 1) gc) (zs ++ [(k : Int)])) := HO.out.appended hown1 (WalkArith.wf_i64 (by omega))
        have hs2 : wr.heap.size + 1 + 1 ≤ w2.heap.size := Nat.le_trans hs1 hgrow2.size
        have hown2d : World.ownsGroups w2.drew Try.prog 3 (w.heap.size + 1 + 1) 3 .i64 (w.heap.size + 1) (2 * k + 1) _ := hown2
        obtain ⟨v2, ys, r1, r2, r3, r4, r5⟩ := gLook hown2d (by simp only [maxLen]; omega) (key3 (x := K k 1) (by have := HG.out.t1 k hlt; have := HG.out.t2 k hlt; omega))
        have t0 := r1 w2.drew rfl
        have t1 := r1 (w2.alloc (.cells #[.int .i64 (k : Int)] 3)).drew (Below.heap_alloc _ _ _ (by omega))
        have X2 : Box w2 wr.heap.size 68 #[.int .i64 (K k 0), .int .i64 (K k 1)] := ((((Box.new wr 68 #[.int .i64 (K k 0), .int .i64 (K k 1)]).drew.alloc _).grown hgrow hv1).grown hgrow2 (by simp; omega))
        have hv2 : v2.ownBlock ≠ some wr.heap.size := fun e => by
          obtain ⟨cur, hcur⟩ := ownsInts_kind r3 e
          have h2 : w2.drew.heap[wr.heap.size]? = some (.cells #[.int .i64 (K k 0), .int .i64 (K k 1)] 68 (0, 0)) := X2
          rw [h2] at hcur
          simp at hcur
        have HB2 : Hid (Below w.heap.size w w2.drew) := B2.drew
        have HO2 : Hid (World.ownsInts w2.drew (w.heap.size + 1 + 1) 3 .i64 v2 ys) := r3
        have HK2 : Hid (World.groupBack w2.drew Try.prog 72 3 (w.heap.size + 1 + 1) 3 .i64 (w.heap.size + 1) (2 * k + 1) (D.put (.int .i64 (K k 0)) (rowDatum .i64 (.slice (some ⟨g, 0, none⟩) (zs.length + 1) gc) (zs ++ [(k : Int)]))) (.int .i64 (K k 1)) (.int .i64 (K k 1)) v2) := r5
        have HA2 : Hid ((D.put (.int .i64 (K k 0)) (rowDatum .i64 (.slice (some ⟨g, 0, none⟩) (zs.length + 1) gc) (zs ++ [(k : Int)]))).atKey (.int .i64 (K k 1)) .nil = rowDatum .i64 v2 ys) := r2
        have HX2 : Hid (Box w2 wr.heap.size 68 #[.int .i64 (K k 0), .int .i64 (K k 1)]) := X2
        clear B2 hown2 hown2d r1 r2 r3 r5 X2 hgrow hgrow2 hown1 k0 k1 hup q0 q1 q2 HR HK hat hgl hv1
        go_wp2_with fail
        go_region_held3 (fun w' => w'.cell? ⟨wr.heap.size, 0, none⟩ = some (.int .i64 (K k 0)) ∧ w'.cell? ⟨wr.heap.size, 1, none⟩ = some (.int .i64 (K k 1)))
          (go_keep)
          ((refine step_append_lies _ (by rfl) _ _ _ (by rfl) (w.heap.size + 1 + 1) 3 i0 _ 1 8 Try.underlying33 hi hz0 hz1 hz2 rfl (by omega) v2 ys.length (ys.map (Value.int .i64)) (by rfl) (HO2.out.1.alloc _) ⟨w2.heap.size, 0, none⟩ 1 1 [.int .i64 k] (by rfl) (by rfl) (cell_one_new' _ _ _ (by simp)) (ints_oneCell .i64 [(k : Int)]) (by omega) (by unfold maxLen; omega) (by omega) (by simp; omega) (w2.heap.size + 1) (by simp) ?_; intro g' gc' w3 hown3 hgrow3 hat3 hgl3; obtain ⟨w4, hup4, hown4, hgrow4⟩ := HK2.out w3 (.slice (some ⟨g', 0, none⟩) (ys.length + 1) gc') (ys ++ [(k : Int)]) ((World.grownBy_alloc _ _ _).trans hgrow3) (HO2.out.appended hown3 (WalkArith.wf_i64 (by omega))) (by simp; omega) (hat3.elim (fun h => Or.inl (by rw [h]; rfl)) (fun h => Or.inr ⟨g', rfl, by simp; omega⟩)); have hs3 : w2.heap.size + 1 ≤ w3.heap.size := (by have := hgrow3.size; simpa using this); have k0 : w3.cell? ⟨wr.heap.size, 0, none⟩ = some (.int .i64 (K k 0)) := (hgrow3.cell_far ⟨wr.heap.size, 0, none⟩ (by simp; omega) (Ne.symm hv2)).trans ((HX2.out.drew.alloc _).cell 0); have k1 : w3.cell? ⟨wr.heap.size, 1, none⟩ = some (.int .i64 (K k 1)) := (hgrow3.cell_far ⟨wr.heap.size, 1, none⟩ (by simp; omega) (Ne.symm hv2)).trans ((HX2.out.drew.alloc _).cell 1); have m0 : w4.cell? ⟨wr.heap.size, 0, none⟩ = some (.int .i64 (K k 0)) := (hgrow4.cell_far ⟨wr.heap.size, 0, none⟩ (by show wr.heap.size < w3.heap.size; omega) (by simp; omega)).trans k0; have m1 : w4.cell? ⟨wr.heap.size, 1, none⟩ = some (.int .i64 (K k 1)) := (hgrow4.cell_far ⟨wr.heap.size, 1, none⟩ (by show wr.heap.size < w3.heap.size; omega) (by simp; omega)).trans k1))
        all_goals
          have B4 : Below w.heap.size w w4 := HB2.out.groups HO2.out ((World.grownBy_alloc _ _ _).trans hgrow3) hgrow4 (by show w.heap.size ≤ w2.heap.size; omega) (by omega) (by omega)
          have R4 : Rings w4 (w.heap.size + 1) K (k + 1) := ⟨_, by have q := hown4; rwa [show 2 * k + 1 + 1 = 2 * (k + 1) by omega] at q, Rings.step HD.out.1 (by have := HG.out.f1 k hlt; have := HG.out.f2 k hlt; omega) (by have := HG.out.t1 k hlt; have := HG.out.t2 k hlt; omega) (HG.out.ne k hlt) HD.out.2.2 HD.out.2.1 HO.out HO1.out HA2.out HO2.out (HO2.out.appended hown3 (WalkArith.wf_i64 (by omega))) rfl⟩
          have HH : Hid (Rings w4 (w.heap.size + 1) K (k + 1) ∧ Below w.heap.size w w4) := ⟨R4, B4⟩
          clear R4 B4 hown4 hgrow3 hgrow4 hown3 hup4 t0 t1 HO HO1 HO2 HA2 HK2 HD HB2 HX2 k0 k1 m0 m1 hat3 hgl3
          go_wp2_with fail
          go_roundw
          case rel => exact ⟨k + 1, by omega, by go_num, HH.out⟩
          case measure => simp [intOf]; omega
    · obtain rfl : k = n := by omega
      go_wp2_with fail
      go_ret
      exact ⟨_, by omega, rfl, hR, hbel⟩

end Go.Proofs.Ytmcaohablpaknaa
