import Derived.Test.YtoennemahlakeaaGreatWe
namespace Go.Proofs.YtoennemahlakeaaGreat
open Go.RowKit Go.Lib

theorem Fr.cells {X : Nat → Prop} {w w' : World} {b : Nat} (h : Fr X w w') (hb : X b) (o : Nat) (v : Value) : Fr X w (w'.setCell ⟨b, o, none⟩ v) := ⟨h.os, h.tape, h.output, by rw [size_setc]; exact h.size, fun k hk hn => (Below.heap_setCell w' _ v k fun e => hn (by rw [e]; exact hb)).trans (h.block k hk hn)⟩
/-- a row that is turned from its two ends inward -/
def rvF (n : Nat) (F : Nat → Nat → Int) (i r c : Nat) : Int := if r < i ∨ n - 1 - r < i then F (n - 1 - r) c else F r c
/-- one row of it written over by another one's -/
def swF1 (F : Nat → Nat → Int) (i j r c : Nat) : Int := if r = i then F j c else F r c
theorem swF1_ne {F : Nat → Nat → Int} {i j r c : Nat} (h : r ≠ i) : swF1 F i j r c = F r c := if_neg h
theorem row4 {M g c n : Nat} {W : World} {F F2 : Nat → Nat → Int} {i : Nat} {x0 x1 x2 x3 : Int} (hi : i < n) (h : VOwn M 113 4 W (.slice (some ⟨g, 0, none⟩) n c) n (intF F)) (h0 : F2 i 0 = x0) (h1 : F2 i 1 = x1) (h2 : F2 i 2 = x2) (h3 : F2 i 3 = x3) (hne : ∀ r c, r ≠ i → F2 r c = F r c) :
    VOwn M 113 4 ((((W.setCell ⟨g, i * 4, none⟩ (.int .i64 x0)).setCell ⟨g, i * 4 + 1, none⟩ (.int .i64 x1)).setCell ⟨g, i * 4 + 2, none⟩ (.int .i64 x2)).setCell ⟨g, i * 4 + 3, none⟩ (.int .i64 x3)) (.slice (some ⟨g, 0, none⟩) n c) n (intF F2) := by
  have h9 := (((h.store (i := i) (j := 0) hi (by omega) (.int .i64 x0)).store (i := i) (j := 1) hi (by omega) (.int .i64 x1)).store (i := i) (j := 2) hi (by omega) (.int .i64 x2)).store (i := i) (j := 3) hi (by omega) (.int .i64 x3)
  refine h9.congr fun r _ k hk => ?_
  unfold upd
  by_cases e : r = i
  · subst e
    rcases (show k = 0 ∨ k = 1 ∨ k = 2 ∨ k = 3 by omega) with rfl | rfl | rfl | rfl
    · simp [intF, h0]
    · simp [intF, h1]
    · simp [intF, h2]
    · simp [intF, h3]
  · simp [intF, e, hne r k e]
theorem fr4 {w W : World} {g : Nat} (h : Fr (fun b => b = g) w W) (o0 o1 o2 o3 : Nat) (x0 x1 x2 x3 : Value) : Fr (fun b => b = g) w ((((W.setCell ⟨g, o0, none⟩ x0).setCell ⟨g, o1, none⟩ x1).setCell ⟨g, o2, none⟩ x2).setCell ⟨g, o3, none⟩ x3) :=
  (((h.cells rfl _ _).cells rfl _ _).cells rfl _ _).cells rfl _ _
theorem swap2 {M g c n : Nat} {w W : World} {F : Nat → Nat → Int} {i jn : Nat} (hij : i < jn) (hn : i + jn + 1 = n) (h : VOwn M 113 4 W (.slice (some ⟨g, 0, none⟩) n c) n (intF (swF1 (rvF n F i) i jn))) (hf : Fr (fun b => b = g) w W) :
    VOwn M 113 4 ((((W.setCell ⟨g, jn * 4, none⟩ (.int .i64 (rvF n F i i 0))).setCell ⟨g, jn * 4 + 1, none⟩ (.int .i64 (rvF n F i i 1))).setCell ⟨g, jn * 4 + 2, none⟩ (.int .i64 (rvF n F i i 2))).setCell ⟨g, jn * 4 + 3, none⟩ (.int .i64 (rvF n F i i 3))) (.slice (some ⟨g, 0, none⟩) n c) n (intF (rvF n F (i + 1))) ∧ Fr (fun b => b = g) w ((((W.setCell ⟨g, jn * 4, none⟩ (.int .i64 (rvF n F i i 0))).setCell ⟨g, jn * 4 + 1, none⟩ (.int .i64 (rvF n F i i 1))).setCell ⟨g, jn * 4 + 2, none⟩ (.int .i64 (rvF n F i i 2))).setCell ⟨g, jn * 4 + 3, none⟩ (.int .i64 (rvF n F i i 3))) := by
  have e1 : ∀ k, rvF n F i i k = F i k := fun k => by unfold rvF; rw [if_neg (by omega)]
  have e2 : ∀ k, rvF n F i jn k = F jn k := fun k => by unfold rvF; rw [if_neg (by omega)]
  have e3 : ∀ k, rvF n F (i + 1) i k = F jn k := fun k => by unfold rvF; rw [if_pos (by omega), show n - 1 - i = jn by omega]
  have e4 : ∀ k, rvF n F (i + 1) jn k = F i k := fun k => by unfold rvF; rw [if_pos (by omega), show n - 1 - jn = i by omega]
  refine ⟨?_, fr4 hf _ _ _ _ _ _ _ _⟩
  have h5 : VOwn M 113 4 W (.slice (some ⟨g, 0, none⟩) n c) n (intF (fun r k => if r = i then F jn k else if r = jn then F jn k else rvF n F (i + 1) r k)) := h.congr fun r hr k _ => by
    show Value.int .i64 _ = Value.int .i64 _
    congr 1
    show swF1 (rvF n F i) i jn r k = if r = i then F jn k else if r = jn then F jn k else rvF n F (i + 1) r k
    unfold swF1
    by_cases a : r = i
    · rw [if_pos a, if_pos a, e2]
    · rw [if_neg a, if_neg a]
      by_cases b : r = jn
      · rw [if_pos b, b, e2]
      · rw [if_neg b]
        unfold rvF
        by_cases d : r < i ∨ n - 1 - r < i
        · rw [if_pos d, if_pos (by omega)]
        · rw [if_neg d, if_neg (by omega)]
  refine row4 (i := jn) (by omega) h5 ?_ ?_ ?_ ?_ ?_
  · rw [e4, e1]
  · rw [e4, e1]
  · rw [e4, e1]
  · rw [e4, e1]
  · intro r k hr
    show rvF n F (i + 1) r k = if r = i then F jn k else if r = jn then F jn k else rvF n F (i + 1) r k
    by_cases a : r = i
    · rw [if_pos a, a, e3]
    · rw [if_neg a, if_neg hr]
set_option maxRecDepth 100000 in
set_option maxHeartbeats 8000000 in
theorem reverse75 (M g c n : Nat) (F : Nat → Nat → Int) (w : World) (hn0 : 0 < n) (hn : n ≤ 1000) (h : VOwn M 113 4 w (.slice (some ⟨g, 0, none⟩) n c) n (intF F)) :
    Calls Tryz.prog 73 #[.slice (some ⟨g, 0, none⟩) n c] w fun e w' => e = .returned (.tuple #[]) ∧ VOwn M 113 4 w' (.slice (some ⟨g, 0, none⟩) n c) n (intF (fun i j => F (n - 1 - i) j)) ∧ Fr (fun b => b = g) w w' := by
  have H : Hid (VOwn M 113 4 w (.slice (some ⟨g, 0, none⟩) n c) n (intF (rvF n F 0))) := h.congr fun r hr k _ => by
    show Value.int .i64 (F r k) = Value.int .i64 (rvF n F 0 r k)
    rw [rvF, if_neg (by omega)]
  clear h
  go_enter Tryz.func73, Tryz.ntmps73
  go_wp2_with fail
  go_loopw [2, 3] (fun u l wr => ∃ (i jn : Nat), i + jn + 1 = n ∧ u = .int .i64 (i : Int) ∧ l = .int .i64 (jn : Int) ∧ Hid (VOwn M 113 4 wr (.slice (some ⟨g, 0, none⟩) n c) n (intF (rvF n F i)) ∧ Fr (fun b => b = g) w wr)) (fun u _ _ => n - (intOf u).toNat)
  case atStart => exact ⟨0, n - 1, by omega, rfl, by rw [show (((n - 1 : Nat)) : Int) = (n : Int) - 1 by omega], ⟨H.out, Fr.refl _ _⟩⟩
  case round =>
    obtain ⟨i, jn, hij, rfl, rfl, D⟩ := hrel
    by_cases hlt : i < jn
    · have hlt' : (i : Int) < (jn : Int) := by omega
      have hi0 : (0 : Int) ≤ (i : Int) := by omega
      have hj0 : (0 : Int) ≤ (jn : Int) := by omega
      have hin : (i : Int) < (n : Int) := by omega
      have hjn : (jn : Int) < (n : Int) := by omega
      have c0 : wr.cell? ⟨g, i * 4, none⟩ = some (.int .i64 (rvF n F i i 0)) := D.out.1.cell (i := i) (j := 0) (by omega) (by omega)
      have c1 : wr.cell? ⟨g, i * 4 + 1, none⟩ = some (.int .i64 (rvF n F i i 1)) := D.out.1.cell (i := i) (j := 1) (by omega) (by omega)
      have c2 : wr.cell? ⟨g, i * 4 + 2, none⟩ = some (.int .i64 (rvF n F i i 2)) := D.out.1.cell (i := i) (j := 2) (by omega) (by omega)
      have c3 : wr.cell? ⟨g, i * 4 + 3, none⟩ = some (.int .i64 (rvF n F i i 3)) := D.out.1.cell (i := i) (j := 3) (by omega) (by omega)
      have d0 : wr.cell? ⟨g, jn * 4, none⟩ = some (.int .i64 (rvF n F i jn 0)) := D.out.1.cell (i := jn) (j := 0) (by omega) (by omega)
      have d1 : wr.cell? ⟨g, jn * 4 + 1, none⟩ = some (.int .i64 (rvF n F i jn 1)) := D.out.1.cell (i := jn) (j := 1) (by omega) (by omega)
      have d2 : wr.cell? ⟨g, jn * 4 + 2, none⟩ = some (.int .i64 (rvF n F i jn 2)) := D.out.1.cell (i := jn) (j := 2) (by omega) (by omega)
      have d3 : wr.cell? ⟨g, jn * 4 + 3, none⟩ = some (.int .i64 (rvF n F i jn 3)) := D.out.1.cell (i := jn) (j := 3) (by omega) (by omega)
      have q0 := D.out.1.free (i * 4)
      have q1 := D.out.1.free (i * 4 + 1)
      have q2 := D.out.1.free (i * 4 + 2)
      have q3 := D.out.1.free (i * 4 + 3)
      have HM1 : Hid (VOwn M 113 4 ((((wr.setCell ⟨g, i * 4, none⟩ (.int .i64 (rvF n F i jn 0))).setCell ⟨g, i * 4 + 1, none⟩ (.int .i64 (rvF n F i jn 1))).setCell ⟨g, i * 4 + 2, none⟩ (.int .i64 (rvF n F i jn 2))).setCell ⟨g, i * 4 + 3, none⟩ (.int .i64 (rvF n F i jn 3))).drew (.slice (some ⟨g, 0, none⟩) n c) n (intF (swF1 (rvF n F i) i jn)) ∧ Fr (fun b => b = g) w ((((wr.setCell ⟨g, i * 4, none⟩ (.int .i64 (rvF n F i jn 0))).setCell ⟨g, i * 4 + 1, none⟩ (.int .i64 (rvF n F i jn 1))).setCell ⟨g, i * 4 + 2, none⟩ (.int .i64 (rvF n F i jn 2))).setCell ⟨g, i * 4 + 3, none⟩ (.int .i64 (rvF n F i jn 3))).drew) := ⟨row4 (i := i) (F2 := swF1 (rvF n F i) i jn) (by omega) D.out.1 (if_pos rfl) (if_pos rfl) (if_pos rfl) (if_pos rfl) (fun r k hr => if_neg hr), (fr4 D.out.2 _ _ _ _ _ _ _ _).drew⟩
      clear D
      go_wp2_with fail
      refine wp_region_held_drew (S := fun _ => True) (by kernel_rfl) trivial (fun _ => ?_)
      refine tk 0 ?_
      refine tk 1 ?_
      refine tk 2 ?_
      refine tk 3 ?_
      refine tk 4 ?_
      refine tk 5 ?_
      refine tk 6 ?_
      refine tk 8 ?_
      refine tk 9 ?_
      refine tk 10 ?_
      refine ready2_lit (i := 7) (j := 11) (by kernel_rfl) rfl rfl (fun K hK => ?_) (fun K hK => ?_)
      · go_simp
        refine hK.out _ _ trivial (fun _ => ?_)
        clear hK K
        refine rl 11 fun K hK => ?_
        go_simp
        refine hK.out _ _ trivial (fun _ => ?_)
        clear hK K
        refine tk 12 ?_
        refine rl 13 fun K hK => ?_
        have M1 : Hid (VOwn M 113 4 ((((wr.setCell ⟨g, i * 4, none⟩ (.int .i64 (rvF n F i jn 0))).setCell ⟨g, i * 4 + 1, none⟩ (.int .i64 (rvF n F i jn 1))).setCell ⟨g, i * 4 + 2, none⟩ (.int .i64 (rvF n F i jn 2))).setCell ⟨g, i * 4 + 3, none⟩ (.int .i64 (rvF n F i jn 3))).drew (.slice (some ⟨g, 0, none⟩) n c) n (intF (swF1 (rvF n F i) i jn)) ∧ Fr (fun b => b = g) w ((((wr.setCell ⟨g, i * 4, none⟩ (.int .i64 (rvF n F i jn 0))).setCell ⟨g, i * 4 + 1, none⟩ (.int .i64 (rvF n F i jn 1))).setCell ⟨g, i * 4 + 2, none⟩ (.int .i64 (rvF n F i jn 2))).setCell ⟨g, i * 4 + 3, none⟩ (.int .i64 (rvF n F i jn 3))).drew) := HM1.out
        go_simp
        refine hK.out _ _ trivial (fun _ => ?_)
        clear hK K
        generalize ((((wr.setCell ⟨g, i * 4, none⟩ (.int .i64 (rvF n F i jn 0))).setCell ⟨g, i * 4 + 1, none⟩ (.int .i64 (rvF n F i jn 1))).setCell ⟨g, i * 4 + 2, none⟩ (.int .i64 (rvF n F i jn 2))).setCell ⟨g, i * 4 + 3, none⟩ (.int .i64 (rvF n F i jn 3))).drew = W1 at M1 ⊢
        clear HM1 c0 c1 c2 c3 d0 d1 d2 d3 q0 q1 q2 q3
        have d0 : W1.cell? ⟨g, jn * 4, none⟩ = some (.int .i64 (rvF n F i jn 0)) := by
          have h9 : W1.cell? ⟨g, jn * 4, none⟩ = some (.int .i64 (swF1 (rvF n F i) i jn jn 0)) := M1.out.1.cell (i := jn) (j := 0) (by omega) (by omega)
          rw [swF1_ne (show jn ≠ i by omega)] at h9
          exact h9
        have d1 : W1.cell? ⟨g, jn * 4 + 1, none⟩ = some (.int .i64 (rvF n F i jn 1)) := by
          have h9 : W1.cell? ⟨g, jn * 4 + 1, none⟩ = some (.int .i64 (swF1 (rvF n F i) i jn jn 1)) := M1.out.1.cell (i := jn) (j := 1) (by omega) (by omega)
          rw [swF1_ne (show jn ≠ i by omega)] at h9
          exact h9
        have d2 : W1.cell? ⟨g, jn * 4 + 2, none⟩ = some (.int .i64 (rvF n F i jn 2)) := by
          have h9 : W1.cell? ⟨g, jn * 4 + 2, none⟩ = some (.int .i64 (swF1 (rvF n F i) i jn jn 2)) := M1.out.1.cell (i := jn) (j := 2) (by omega) (by omega)
          rw [swF1_ne (show jn ≠ i by omega)] at h9
          exact h9
        have d3 : W1.cell? ⟨g, jn * 4 + 3, none⟩ = some (.int .i64 (rvF n F i jn 3)) := by
          have h9 : W1.cell? ⟨g, jn * 4 + 3, none⟩ = some (.int .i64 (swF1 (rvF n F i) i jn jn 3)) := M1.out.1.cell (i := jn) (j := 3) (by omega) (by omega)
          rw [swF1_ne (show jn ≠ i by omega)] at h9
          exact h9
        have q0 := M1.out.1.free (jn * 4)
        have q1 := M1.out.1.free (jn * 4 + 1)
        have q2 := M1.out.1.free (jn * 4 + 2)
        have q3 := M1.out.1.free (jn * 4 + 3)
        have M2 : Hid (VOwn M 113 4 ((((W1.setCell ⟨g, jn * 4, none⟩ (.int .i64 (rvF n F i i 0))).setCell ⟨g, jn * 4 + 1, none⟩ (.int .i64 (rvF n F i i 1))).setCell ⟨g, jn * 4 + 2, none⟩ (.int .i64 (rvF n F i i 2))).setCell ⟨g, jn * 4 + 3, none⟩ (.int .i64 (rvF n F i i 3))) (.slice (some ⟨g, 0, none⟩) n c) n (intF (rvF n F (i + 1))) ∧ Fr (fun b => b = g) w ((((W1.setCell ⟨g, jn * 4, none⟩ (.int .i64 (rvF n F i i 0))).setCell ⟨g, jn * 4 + 1, none⟩ (.int .i64 (rvF n F i i 1))).setCell ⟨g, jn * 4 + 2, none⟩ (.int .i64 (rvF n F i i 2))).setCell ⟨g, jn * 4 + 3, none⟩ (.int .i64 (rvF n F i i 3)))) := swap2 (by omega) (by omega) M1.out.1 M1.out.2
        refine tk 14 ?_
        refine rl 15 fun K hK => ?_
        go_simp
        refine hK.out _ _ trivial (fun _ => ?_)
        clear hK K
        refine wpAnyH_done (by kernel_rfl) ?_ _
        generalize ((((W1.setCell ⟨g, jn * 4, none⟩ (.int .i64 (rvF n F i i 0))).setCell ⟨g, jn * 4 + 1, none⟩ (.int .i64 (rvF n F i i 1))).setCell ⟨g, jn * 4 + 2, none⟩ (.int .i64 (rvF n F i i 2))).setCell ⟨g, jn * 4 + 3, none⟩ (.int .i64 (rvF n F i i 3))) = W2 at M2 ⊢
        clear d0 d1 d2 d3 q0 q1 q2 q3 M1
        obtain ⟨jp, rfl⟩ : ∃ jp, jn = jp + 1 := ⟨jn - 1, by omega⟩
        go_wp2_with fail
        go_roundw
        case rel => exact ⟨i + 1, jp, by omega, by go_num, by go_num, M2⟩
        case measure => simp [intOf]; omega
      · go_simp
        refine hK.out _ _ trivial (fun _ => ?_)
        clear hK K
        refine rl 7 fun K hK => ?_
        go_simp
        refine hK.out _ _ trivial (fun _ => ?_)
        clear hK K
        refine tk 12 ?_
        refine rl 13 fun K hK => ?_
        have M1 : Hid (VOwn M 113 4 ((((wr.setCell ⟨g, i * 4, none⟩ (.int .i64 (rvF n F i jn 0))).setCell ⟨g, i * 4 + 1, none⟩ (.int .i64 (rvF n F i jn 1))).setCell ⟨g, i * 4 + 2, none⟩ (.int .i64 (rvF n F i jn 2))).setCell ⟨g, i * 4 + 3, none⟩ (.int .i64 (rvF n F i jn 3))).drew (.slice (some ⟨g, 0, none⟩) n c) n (intF (swF1 (rvF n F i) i jn)) ∧ Fr (fun b => b = g) w ((((wr.setCell ⟨g, i * 4, none⟩ (.int .i64 (rvF n F i jn 0))).setCell ⟨g, i * 4 + 1, none⟩ (.int .i64 (rvF n F i jn 1))).setCell ⟨g, i * 4 + 2, none⟩ (.int .i64 (rvF n F i jn 2))).setCell ⟨g, i * 4 + 3, none⟩ (.int .i64 (rvF n F i jn 3))).drew) := HM1.out
        go_simp
        refine hK.out _ _ trivial (fun _ => ?_)
        clear hK K
        generalize ((((wr.setCell ⟨g, i * 4, none⟩ (.int .i64 (rvF n F i jn 0))).setCell ⟨g, i * 4 + 1, none⟩ (.int .i64 (rvF n F i jn 1))).setCell ⟨g, i * 4 + 2, none⟩ (.int .i64 (rvF n F i jn 2))).setCell ⟨g, i * 4 + 3, none⟩ (.int .i64 (rvF n F i jn 3))).drew = W1 at M1 ⊢
        clear HM1 c0 c1 c2 c3 d0 d1 d2 d3 q0 q1 q2 q3
        have d0 : W1.cell? ⟨g, jn * 4, none⟩ = some (.int .i64 (rvF n F i jn 0)) := by
          have h9 : W1.cell? ⟨g, jn * 4, none⟩ = some (.int .i64 (swF1 (rvF n F i) i jn jn 0)) := M1.out.1.cell (i := jn) (j := 0) (by omega) (by omega)
          rw [swF1_ne (show jn ≠ i by omega)] at h9
          exact h9
        have d1 : W1.cell? ⟨g, jn * 4 + 1, none⟩ = some (.int .i64 (rvF n F i jn 1)) := by
          have h9 : W1.cell? ⟨g, jn * 4 + 1, none⟩ = some (.int .i64 (swF1 (rvF n F i) i jn jn 1)) := M1.out.1.cell (i := jn) (j := 1) (by omega) (by omega)
          rw [swF1_ne (show jn ≠ i by omega)] at h9
          exact h9
        have d2 : W1.cell? ⟨g, jn * 4 + 2, none⟩ = some (.int .i64 (rvF n F i jn 2)) := by
          have h9 : W1.cell? ⟨g, jn * 4 + 2, none⟩ = some (.int .i64 (swF1 (rvF n F i) i jn jn 2)) := M1.out.1.cell (i := jn) (j := 2) (by omega) (by omega)
          rw [swF1_ne (show jn ≠ i by omega)] at h9
          exact h9
        have d3 : W1.cell? ⟨g, jn * 4 + 3, none⟩ = some (.int .i64 (rvF n F i jn 3)) := by
          have h9 : W1.cell? ⟨g, jn * 4 + 3, none⟩ = some (.int .i64 (swF1 (rvF n F i) i jn jn 3)) := M1.out.1.cell (i := jn) (j := 3) (by omega) (by omega)
          rw [swF1_ne (show jn ≠ i by omega)] at h9
          exact h9
        have q0 := M1.out.1.free (jn * 4)
        have q1 := M1.out.1.free (jn * 4 + 1)
        have q2 := M1.out.1.free (jn * 4 + 2)
        have q3 := M1.out.1.free (jn * 4 + 3)
        have M2 : Hid (VOwn M 113 4 ((((W1.setCell ⟨g, jn * 4, none⟩ (.int .i64 (rvF n F i i 0))).setCell ⟨g, jn * 4 + 1, none⟩ (.int .i64 (rvF n F i i 1))).setCell ⟨g, jn * 4 + 2, none⟩ (.int .i64 (rvF n F i i 2))).setCell ⟨g, jn * 4 + 3, none⟩ (.int .i64 (rvF n F i i 3))) (.slice (some ⟨g, 0, none⟩) n c) n (intF (rvF n F (i + 1))) ∧ Fr (fun b => b = g) w ((((W1.setCell ⟨g, jn * 4, none⟩ (.int .i64 (rvF n F i i 0))).setCell ⟨g, jn * 4 + 1, none⟩ (.int .i64 (rvF n F i i 1))).setCell ⟨g, jn * 4 + 2, none⟩ (.int .i64 (rvF n F i i 2))).setCell ⟨g, jn * 4 + 3, none⟩ (.int .i64 (rvF n F i i 3)))) := swap2 (by omega) (by omega) M1.out.1 M1.out.2
        refine tk 14 ?_
        refine rl 15 fun K hK => ?_
        go_simp
        refine hK.out _ _ trivial (fun _ => ?_)
        clear hK K
        refine wpAnyH_done (by kernel_rfl) ?_ _
        generalize ((((W1.setCell ⟨g, jn * 4, none⟩ (.int .i64 (rvF n F i i 0))).setCell ⟨g, jn * 4 + 1, none⟩ (.int .i64 (rvF n F i i 1))).setCell ⟨g, jn * 4 + 2, none⟩ (.int .i64 (rvF n F i i 2))).setCell ⟨g, jn * 4 + 3, none⟩ (.int .i64 (rvF n F i i 3))) = W2 at M2 ⊢
        clear d0 d1 d2 d3 q0 q1 q2 q3 M1
        obtain ⟨jp, rfl⟩ : ∃ jp, jn = jp + 1 := ⟨jn - 1, by omega⟩
        go_wp2_with fail
        go_roundw
        case rel => exact ⟨i + 1, jp, by omega, by go_num, by go_num, M2⟩
        case measure => simp [intOf]; omega
    · have hge : ¬ (i : Int) < (jn : Int) := by omega
      have HE : Hid (VOwn M 113 4 wr (.slice (some ⟨g, 0, none⟩) n c) n (intF (fun i j => F (n - 1 - i) j)) ∧ Fr (fun b => b = g) w wr) := ⟨D.out.1.congr fun r hr k _ => by
        show Value.int .i64 (rvF n F i r k) = Value.int .i64 (F (n - 1 - r) k)
        by_cases d : r < i ∨ n - 1 - r < i
        · rw [rvF, if_pos d]
        · rw [rvF, if_neg d, show n - 1 - r = r by omega], D.out.2⟩
      clear D
      go_wp2_with fail
      go_end0
      exact ⟨rfl, HE.out.1, HE.out.2⟩
theorem spot76 {v : Nv} (ok : v.Ok) {bt sb : Nat} {pa : Option Addr} {pc : Nat} {ja : Option Addr} {jc : Nat} (sp : Nat) (wy far : Int) (w : World) (h : TkAt w bt sb v pa pc ja jc) (hspn : sp < v.n) (hfar : 0 ≤ far ∧ far ≤ 10000000) :
    Calls Tryz.prog 74 #[.pointer (some ⟨bt, 0, none⟩), .agg #[.int .i64 (sp : Int), .int .i64 wy], .int .i64 far] w fun e w' => e = .returned (.agg #[.int .i64 (sp : Int), .int .i64 (farI (v.P sp).ln far wy), .int .i64 wy]) ∧ Below w.heap.size w w' := by
  have H : Hid (v.Ok ∧ TkAt w bt sb v pa pc ja jc) := ⟨ok, h⟩
  obtain ⟨at1, HA1⟩ : ∃ q, Hid (farI (v.P sp).ln far wy = q) := ⟨_, rfl⟩
  rw [HA1.out]
  have S0 : Hid (Below w.heap.size w ((w.alloc (.cells #[.int .i64 (sp : Int), .int .i64 wy] 79)).alloc (.cells #[.int .i64 0, .int .i64 0, .int .i64 0] 40)) ∧ Box ((w.alloc (.cells #[.int .i64 (sp : Int), .int .i64 wy] 79)).alloc (.cells #[.int .i64 0, .int .i64 0, .int .i64 0] 40)) (w.heap.size) 79 #[.int .i64 (sp : Int), .int .i64 wy] ∧ Box ((w.alloc (.cells #[.int .i64 (sp : Int), .int .i64 wy] 79)).alloc (.cells #[.int .i64 0, .int .i64 0, .int .i64 0] 40)) (w.heap.size + 1) 40 #[.int .i64 0, .int .i64 0, .int .i64 0]) := ⟨bel2 _ _ _, (Box.new _ _ _).alloc _, by have := Box.new (w.alloc (.cells #[.int .i64 (sp : Int), .int .i64 wy] 79)) 40 #[.int .i64 0, .int .i64 0, .int .i64 0]; simpa using this⟩
  clear ok h
  go_enter Tryz.func74, Tryz.ntmps74
  go_upto_region 1 with fail
  generalize ((w.alloc (.cells #[.int .i64 (sp : Int), .int .i64 wy] 79)).alloc (.cells #[.int .i64 0, .int .i64 0, .int .i64 0] 40)) = V0 at S0 ⊢
  have MD : Hid (Below w.heap.size w V0.drew ∧ Box V0.drew (w.heap.size) 79 #[.int .i64 (sp : Int), .int .i64 wy] ∧ Box V0.drew (w.heap.size + 1) 40 #[.int .i64 0, .int .i64 0, .int .i64 0]) := ⟨S0.out.1.drew, S0.out.2.1.drew, S0.out.2.2.drew⟩
  have a0 : V0.cell? ⟨w.heap.size, 0, none⟩ = some (.int .i64 (sp : Int)) := S0.out.2.1.cell 0
  have a1 : V0.cell? ⟨w.heap.size, 1, none⟩ = some (.int .i64 wy) := S0.out.2.1.cell 1
  have b0 : V0.cell? ⟨w.heap.size + 1, 0, none⟩ = some (.int .i64 0) := S0.out.2.2.cell 0
  have b1 : V0.cell? ⟨w.heap.size + 1, 1, none⟩ = some (.int .i64 0) := S0.out.2.2.cell 1
  have b2 : V0.cell? ⟨w.heap.size + 1, 2, none⟩ = some (.int .i64 0) := S0.out.2.2.cell 2
  go_wp2_with fail
  refine wp_region_held_drew (S := (fun wx : World => wx.cell? ⟨w.heap.size, 0, none⟩ = some (.int .i64 (sp : Int)) ∧ wx.cell? ⟨w.heap.size, 1, none⟩ = some (.int .i64 wy))) (by kernel_rfl) ?_ (fun hHeld => ?_)
  · exact ⟨a0, a1⟩
  refine tk 0 ?_
  refine tk 1 ?_
  refine tk 2 ?_
  refine tk 3 ?_
  refine tk 4 ?_
  refine tk 6 ?_
  refine tk 7 ?_
  refine rl 5 fun K hK => ?_
  go_simp
  refine (along98 H.out.1 sp wy far _ (H.out.2.mono MD.out.1 (Nat.le_refl _)) hspn hfar).mono ?_
  rintro e w1 ⟨he, hb⟩
  rw [HA1.out] at he
  subst he
  have M1 : Hid (Below w.heap.size w w1 ∧ Box w1 (w.heap.size) 79 #[.int .i64 (sp : Int), .int .i64 wy] ∧ Box w1 (w.heap.size + 1) 40 #[.int .i64 0, .int .i64 0, .int .i64 0]) := ⟨MD.out.1.trans (hb.mono MD.out.1.size), MD.out.2.1.mono hb (Nat.le_refl _), MD.out.2.2.mono hb (Nat.le_refl _)⟩
  clear hb
  go_wp2_with fail
  refine hK.out _ _ ?_ (fun hHeld5 => ?_)
  · exact ⟨M1.out.2.1.cell 0, M1.out.2.1.cell 1⟩
  clear hK K
  refine tk 8 ?_
  refine rl 9 fun K hK => ?_
  have z0 : w1.cell? ⟨w.heap.size + 1, 0, none⟩ = some (.int .i64 0) := M1.out.2.2.cell 0
  have z1 : w1.cell? ⟨w.heap.size + 1, 1, none⟩ = some (.int .i64 0) := M1.out.2.2.cell 1
  have z2 : w1.cell? ⟨w.heap.size + 1, 2, none⟩ = some (.int .i64 0) := M1.out.2.2.cell 2
  have q0 := M1.out.2.2.free 0
  have q1 := M1.out.2.2.free 1
  have q2 := M1.out.2.2.free 2
  have e1 : w.heap.size ≠ w.heap.size + 1 := by omega
  have M4 : Hid (Below w.heap.size w (((w1.setCell ⟨w.heap.size + 1, 0, none⟩ (.int .i64 (sp : Int))).setCell ⟨w.heap.size + 1, 1, none⟩ (.int .i64 at1)).setCell ⟨w.heap.size + 1, 2, none⟩ (.int .i64 wy)) ∧ Box (((w1.setCell ⟨w.heap.size + 1, 0, none⟩ (.int .i64 (sp : Int))).setCell ⟨w.heap.size + 1, 1, none⟩ (.int .i64 at1)).setCell ⟨w.heap.size + 1, 2, none⟩ (.int .i64 wy)) (w.heap.size) 79 #[.int .i64 (sp : Int), .int .i64 wy] ∧ Box (((w1.setCell ⟨w.heap.size + 1, 0, none⟩ (.int .i64 (sp : Int))).setCell ⟨w.heap.size + 1, 1, none⟩ (.int .i64 at1)).setCell ⟨w.heap.size + 1, 2, none⟩ (.int .i64 wy)) (w.heap.size + 1) 40 #[.int .i64 (sp : Int), .int .i64 at1, .int .i64 wy]) := ⟨((M1.out.1.setCell (Nat.le_add_right _ 1) _).setCell (Nat.le_add_right _ 1) _).setCell (Nat.le_add_right _ 1) _, ((M1.out.2.1.other e1 _).other e1 _).other e1 _, by
    have h9 := ((M1.out.2.2.set 0 (.int .i64 (sp : Int))).set 1 (.int .i64 at1)).set 2 (.int .i64 wy)
    exact h9⟩
  go_simp
  refine hK.out _ _ ?_ (fun hHeld9 => ?_)
  · exact ⟨M4.out.2.1.cell 0, M4.out.2.1.cell 1⟩
  clear hK K
  refine wpAnyH_done (by kernel_rfl) ?_ _
  clear a0 a1 b0 b1 b2 z0 z1 z2 q0 q1 q2 S0 MD M1
  generalize (((w1.setCell ⟨w.heap.size + 1, 0, none⟩ (.int .i64 (sp : Int))).setCell ⟨w.heap.size + 1, 1, none⟩ (.int .i64 at1)).setCell ⟨w.heap.size + 1, 2, none⟩ (.int .i64 wy)) = W9 at M4 ⊢
  have z0 : W9.cell? ⟨w.heap.size + 1, 0, none⟩ = some (.int .i64 (sp : Int)) := M4.out.2.2.cell 0
  have z1 : W9.cell? ⟨w.heap.size + 1, 1, none⟩ = some (.int .i64 at1) := M4.out.2.2.cell 1
  have z2 : W9.cell? ⟨w.heap.size + 1, 2, none⟩ = some (.int .i64 wy) := M4.out.2.2.cell 2
  go_wp2_with fail
  exact bodyPost_ret (v := .agg #[.int .i64 (sp : Int), .int .i64 at1, .int .i64 wy]) (by simp [results, Tryz.results74, go_sem, z0, z1, z2]) rfl ⟨rfl, M4.out.1⟩
def rtF (v : Nv) (fp fa fw lg : Int) (nb : Nat) (B : Nat → Nat → Int) (i c : Nat) : Int := tgF v (stG v fp fa fw lg nb B) ((nb + 1 - noF v fp fa fw B) - 1 - i) c
def bkF (fp fw : Int) (nb : Nat) (B : Nat → Nat → Int) (i c : Nat) : Int := if c = 0 then ahP fp B (nb - 1 - i) else -(ahW fw B (nb - 1 - i))
def tlA (v : Nv) (fp fa fw lg : Int) (nb : Nat) (B : Nat → Nat → Int) : Int := farI (v.P (ahP fp B nb).toNat).ln (hvF v fp fa fw B nb - lg) (ahW fw B nb)
theorem no_le (v : Nv) (fp fa fw : Int) (B : Nat → Nat → Int) : noF v fp fa fw B ≤ 1 := by
  unfold noF
  split <;> omega
theorem Trn.no {v : Nv} {fp fa fw lg : Int} {nb : Nat} {B : Nat → Nat → Int} (h : Trn v fp fa fw lg nb B) : noF v fp fa fw B ≤ nb := by
  unfold noF
  by_cases c : hvF v fp fa fw B 0 = 0
  · rw [if_pos c]
    have h1 := h.le
    have h2 := h.lg0
    by_cases d : nb = 0
    · rw [d, c] at h1
      omega
    · omega
  · rw [if_neg c]
    omega
theorem Trn.fr {v : Nv} {fp fa fw lg : Int} {nb : Nat} {B : Nat → Nat → Int} (ok : v.Ok) (h : Trn v fp fa fw lg nb B) {k : Nat} (hk : k ≤ nb) : 0 ≤ frF v fp fa fw lg nb B k ∧ frF v fp fa fw lg nb B k ≤ heF v fp fa fw B k := by
  obtain ⟨x0, _, y0, _, h1, h2⟩ := h.far ok hk rfl rfl
  by_cases c : lfF v fp fa fw lg nb B k < heF v fp fa fw B k
  · have := (h1 c).1
    omega
  · have := (h2 c).1
    omega
theorem Trn.hl {v : Nv} {fp fa fw lg : Int} {nb : Nat} {B : Nat → Nat → Int} (h : Trn v fp fa fw lg nb B) : ∀ k, k ≤ nb → heF v fp fa fw B k ≤ (v.P (ahP fp B k).toNat).ln
  | 0, _ => by
    obtain ⟨q, h1, h2, h3, h4, h5⟩ := spot_nat h.spot
    show farI (v.P fp.toNat).ln fa fw ≤ (v.P fp.toNat).ln
    rw [h1, Int.toNat_natCast, farI]
    split <;> omega
  | k + 1, _ => Int.le_refl _
theorem Trn.sg {v : Nv} {fp fa fw lg : Int} {nb : Nat} {B : Nat → Nat → Int} (ok : v.Ok) (h : Trn v fp fa fw lg nb B) : SgOk v (nb + 1 - noF v fp fa fw B) (stG v fp fa fw lg nb B) := fun i hi => by
  have hj : i + noF v fp fa fw B ≤ nb := by have := h.no; omega
  obtain ⟨q, h1, h2, h3⟩ := h.sp _ hj
  have h4 := h.fr ok hj
  have h5 := h.he ok hj
  exact ⟨q, h1, h2, h3, ⟨h4.1, Int.le_trans h4.2 h5.2.1⟩, ⟨h5.1, h5.2.1⟩⟩
theorem rt_first {v : Nv} {fp fa fw lg : Int} {nb : Nat} {B : Nat → Nat → Int} (h : Trn v fp fa fw lg nb B) : rtF v fp fa fw lg nb B 0 0 = ahP fp B nb ∧ rtF v fp fa fw lg nb B 0 1 = -(ahW fw B nb) ∧ rtF v fp fa fw lg nb B 0 3 = (v.P (ahP fp B nb).toNat).ln - (hvF v fp fa fw B nb - lg) := by
  have e : (nb + 1 - noF v fp fa fw B) - 1 - 0 + noF v fp fa fw B = nb := by have := h.no; omega
  have e3 : frF v fp fa fw lg nb B nb = hvF v fp fa fw B nb - lg := if_pos rfl
  refine ⟨?_, ?_, ?_⟩
  · show ahP fp B ((nb + 1 - noF v fp fa fw B) - 1 - 0 + noF v fp fa fw B) = _
    rw [e]
  · show -(ahW fw B ((nb + 1 - noF v fp fa fw B) - 1 - 0 + noF v fp fa fw B)) = _
    rw [e]
  · show (v.P (ahP fp B ((nb + 1 - noF v fp fa fw B) - 1 - 0 + noF v fp fa fw B)).toNat).ln - frF v fp fa fw lg nb B ((nb + 1 - noF v fp fa fw B) - 1 - 0 + noF v fp fa fw B) = _
    rw [e, e3]
theorem rt_back {v : Nv} {fp fa fw lg : Int} {nb : Nat} {B : Nat → Nat → Int} (h : Trn v fp fa fw lg nb B) {i : Nat} (hi : i < (nb + 1 - noF v fp fa fw B) - 1) : rtF v fp fa fw lg nb B (i + 1) 0 = bkF fp fw nb B i 0 ∧ rtF v fp fa fw lg nb B (i + 1) 1 = bkF fp fw nb B i 1 := by
  have e : (nb + 1 - noF v fp fa fw B) - 1 - (i + 1) + noF v fp fa fw B = nb - 1 - i := by have := h.no; omega
  constructor
  · show ahP fp B ((nb + 1 - noF v fp fa fw B) - 1 - (i + 1) + noF v fp fa fw B) = ahP fp B (nb - 1 - i)
    rw [e]
  · show -(ahW fw B ((nb + 1 - noF v fp fa fw B) - 1 - (i + 1) + noF v fp fa fw B)) = -(ahW fw B (nb - 1 - i))
    rw [e]
theorem app2 {w W w6 : World} {vl vo v2 : Value} {nl n : Nat} {F G : Nat → Nat → Value} {o : Obj} (hb : Below w.heap.size w W) (hl : VOwn w.heap.size 113 4 W vl nl F) (ho : VOwn w.heap.size 79 2 W vo n G) (h2 : VOwn w.heap.size 79 2 w6 v2 (n + 1) G) (hg : (W.alloc o).grownBy w6 vo.ownBlock) :
    Below w.heap.size w w6 ∧ VOwn w.heap.size 113 4 w6 vl nl F ∧ VOwn w.heap.size 79 2 w6 v2 (n + 1) G ∧ ∀ b T xs, T ≠ 79 → Box W b T xs → Box w6 b T xs :=
  ⟨(hb.alloc hb.size o).grown hg (hb.alloc hb.size o).size (fun _ hj => (ho.lt hj).1), (hl.alloc o).grown' hg (fun _ hh => (hl.alloc o).apart (ho.alloc o) (by decide) hh), h2, fun _ _ _ hT hx => (hx.alloc o).grown hg (fun e => (ho.alloc o).off (hx.alloc o) hT e rfl)⟩
set_option maxRecDepth 100000 in
set_option maxHeartbeats 32000000 in
theorem turn43 {v : Nv} (ok : v.Ok) {bt sb : Nat} {pa : Option Addr} {pc : Nat} {ja : Option Addr} {jc : Nat} (fp fa fw lg : Int) (nb : Nat) (B : Nat → Nat → Int) (bb bo bk : Nat) (w : World) (h : TkAt w bt sb v pa pc ja jc) (ht : Trn v fp fa fw lg nb B) (hB : NsAt 2 0 w (some ⟨bb, bo, none⟩) nb B) :
    Calls Tryz.prog 42 #[.pointer (some ⟨bt, 0, none⟩), .agg #[.int .i64 fp, .int .i64 fa, .int .i64 fw, .int .i64 lg, .slice (some ⟨bb, bo, none⟩) nb bk]] w fun e w' => ∃ a c, e = .returned (.agg #[.int .i64 (ahP fp B nb), .int .i64 (tlA v fp fa fw lg nb B), .int .i64 (-(ahW fw B nb)), .int .i64 lg, .slice a (nb - noF v fp fa fw B) c]) ∧ VOwn w.heap.size 79 2 w' (.slice a (nb - noF v fp fa fw B) c) (nb - noF v fp fa fw B) (intF (bkF fp fw nb B)) ∧ Below w.heap.size w w' := by
  have H : Hid (v.Ok ∧ Trn v fp fa fw lg nb B ∧ TkAt w bt sb v pa pc ja jc ∧ NsAt 2 0 w (some ⟨bb, bo, none⟩) nb B) := ⟨ok, ht, h, hB⟩
  have hnb := ht.nb1
  have hno := ht.no
  obtain ⟨i0, hi0, hz0, hs0, hb0⟩ := info_parts infoStep
  obtain ⟨N, HNN⟩ : ∃ N, Hid ((nb + 1 - noF v fp fa fw B) = N) := ⟨_, rfl⟩
  have hN0 : 0 < N := by have := HNN.out; omega
  have hN1 : N ≤ 300 := by have := HNN.out; omega
  obtain ⟨sp, HSP, hspn, hsw⟩ : ∃ q : Nat, Hid (ahP fp B nb = (q : Int)) ∧ q < v.n ∧ (ahW fw B nb = 1 ∨ ahW fw B nb = -1) := ht.sp nb (Nat.le_refl _)
  obtain ⟨nw, HNW⟩ : ∃ q, Hid (-(ahW fw B nb) = q) := ⟨_, rfl⟩
  obtain ⟨tt, HTT⟩ : ∃ q, Hid ((v.P sp).ln - (hvF v fp fa fw B nb - lg) = q) := ⟨_, rfl⟩
  obtain ⟨t2, HT2⟩ : ∃ q, Hid (rtF v fp fa fw lg nb B 0 2 = q) := ⟨_, rfl⟩
  have htt : 0 ≤ tt ∧ tt ≤ 10000000 := by
    have h1 := ht.fr ok (Nat.le_refl nb)
    have h2 := ht.hl nb (Nat.le_refl _)
    have h3 := ok.ln sp hspn
    rw [HSP.out, Int.toNat_natCast] at h2
    rw [show frF v fp fa fw lg nb B nb = hvF v fp fa fw B nb - lg from if_pos rfl] at h1
    have := HTT.out
    omega
  obtain ⟨at1, HA1⟩ : ∃ q, Hid (farI (v.P sp).ln tt nw = q) := ⟨_, rfl⟩
  have HAT : Hid (tlA v fp fa fw lg nb B = at1) := by
    show _ = _
    rw [tlA, HSP.out, Int.toNat_natCast, ← HA1.out, ← HNW.out, ← HTT.out]
    rcases hsw with e | e <;> rw [e] <;> unfold farI <;> simp <;> omega
  have HRT : Hid (rtF v fp fa fw lg nb B 0 0 = (sp : Int) ∧ rtF v fp fa fw lg nb B 0 1 = nw ∧ rtF v fp fa fw lg nb B 0 2 = t2 ∧ rtF v fp fa fw lg nb B 0 3 = tt) := by
    obtain ⟨e1, e2, e3⟩ := rt_first ht
    rw [HSP.out, Int.toNat_natCast] at e3
    exact ⟨e1.trans HSP.out, e2.trans HNW.out, HT2.out, e3.trans HTT.out⟩
  have S0 : Hid (Below w.heap.size w ((w.alloc (.cells #[.int .i64 fp, .int .i64 fa, .int .i64 fw, .int .i64 lg, .slice (some ⟨bb, bo, none⟩) nb bk] 63)).alloc (.cells #[.int .i64 0, .int .i64 0, .int .i64 0, .int .i64 0, .slice none 0 0] 63)) ∧ Box ((w.alloc (.cells #[.int .i64 fp, .int .i64 fa, .int .i64 fw, .int .i64 lg, .slice (some ⟨bb, bo, none⟩) nb bk] 63)).alloc (.cells #[.int .i64 0, .int .i64 0, .int .i64 0, .int .i64 0, .slice none 0 0] 63)) (w.heap.size) 63 #[.int .i64 fp, .int .i64 fa, .int .i64 fw, .int .i64 lg, .slice (some ⟨bb, bo, none⟩) nb bk] ∧ Box ((w.alloc (.cells #[.int .i64 fp, .int .i64 fa, .int .i64 fw, .int .i64 lg, .slice (some ⟨bb, bo, none⟩) nb bk] 63)).alloc (.cells #[.int .i64 0, .int .i64 0, .int .i64 0, .int .i64 0, .slice none 0 0] 63)) (w.heap.size + 1) 63 #[.int .i64 0, .int .i64 0, .int .i64 0, .int .i64 0, .slice none 0 0]) := ⟨bel2 _ _ _, (Box.new _ _ _).alloc _, by have := Box.new (w.alloc (.cells #[.int .i64 fp, .int .i64 fa, .int .i64 fw, .int .i64 lg, .slice (some ⟨bb, bo, none⟩) nb bk] 63)) 63 #[.int .i64 0, .int .i64 0, .int .i64 0, .int .i64 0, .slice none 0 0]; simpa using this⟩
  clear ok ht h hB hsw
  go_enter Tryz.func42, Tryz.ntmps42
  go_upto_region 1 with fail
  generalize ((w.alloc (.cells #[.int .i64 fp, .int .i64 fa, .int .i64 fw, .int .i64 lg, .slice (some ⟨bb, bo, none⟩) nb bk] 63)).alloc (.cells #[.int .i64 0, .int .i64 0, .int .i64 0, .int .i64 0, .slice none 0 0] 63)) = V0 at S0 ⊢
  have a0 : V0.cell? ⟨w.heap.size, 0, none⟩ = some (.int .i64 fp) := S0.out.2.1.cell 0
  have a1 : V0.cell? ⟨w.heap.size, 1, none⟩ = some (.int .i64 fa) := S0.out.2.1.cell 1
  have a2 : V0.cell? ⟨w.heap.size, 2, none⟩ = some (.int .i64 fw) := S0.out.2.1.cell 2
  have a3 : V0.cell? ⟨w.heap.size, 3, none⟩ = some (.int .i64 lg) := S0.out.2.1.cell 3
  have a4 : V0.cell? ⟨w.heap.size, 4, none⟩ = some (.slice (some ⟨bb, bo, none⟩) nb bk) := S0.out.2.1.cell 4
  have b0 : V0.cell? ⟨w.heap.size + 1, 0, none⟩ = some (.int .i64 0) := S0.out.2.2.cell 0
  have b1 : V0.cell? ⟨w.heap.size + 1, 1, none⟩ = some (.int .i64 0) := S0.out.2.2.cell 1
  have b2 : V0.cell? ⟨w.heap.size + 1, 2, none⟩ = some (.int .i64 0) := S0.out.2.2.cell 2
  have b3 : V0.cell? ⟨w.heap.size + 1, 3, none⟩ = some (.int .i64 0) := S0.out.2.2.cell 3
  have b4 : V0.cell? ⟨w.heap.size + 1, 4, none⟩ = some (.slice none 0 0) := S0.out.2.2.cell 4
  go_wp2_with fail
  clear a0 a1 a2 a3 a4 b0 b1 b2 b3 b4
  refine (stretches73 H.out.1 fp fa fw lg nb B bb bo bk V0 (H.out.2.2.1.mono S0.out.1 (Nat.le_refl _)) H.out.2.1 (H.out.2.2.2.mono (Nat.le_refl _) S0.out.1 (Nat.le_refl _))).mono ?_
  rintro e w1 ⟨l1, m1, he, hl1, hb1⟩
  have M1 : Hid ((Below w.heap.size w w1 ∧ Box w1 (w.heap.size) 63 #[.int .i64 fp, .int .i64 fa, .int .i64 fw, .int .i64 lg, .slice (some ⟨bb, bo, none⟩) nb bk] ∧ Box w1 (w.heap.size + 1) 63 #[.int .i64 0, .int .i64 0, .int .i64 0, .int .i64 0, .slice none 0 0]) ∧ VsAt 4 0 w1 l1 N (intF (stG v fp fa fw lg nb B))) := ⟨⟨S0.out.1.trans (hb1.mono S0.out.1.size), S0.out.2.1.mono hb1 (Nat.le_refl _), S0.out.2.2.mono hb1 (Nat.le_refl _)⟩, by rw [HNN.out] at hl1; exact hl1.vs.le (Nat.zero_le _)⟩
  rw [HNN.out] at he
  subst he
  clear hb1 hl1 S0
  go_wp2_with fail
  refine (mapped72 H.out.1 l1 N m1 (stG v fp fa fw lg nb B) w1 (H.out.2.2.1.mono M1.out.1.1 (Nat.le_refl _)) (by omega) (by have := H.out.2.1.sg H.out.1; rw [HNN.out] at this; exact this) M1.out.2).mono ?_
  rintro e w2 ⟨l2, gc, rfl, hl2, hb2⟩
  obtain ⟨g, rfl, _, _⟩ := hl2.addr hN0
  have hgc : N ≤ gc := by
    rcases hl2 with ⟨h1, _⟩ | ⟨g', cap, cur, h1, _, _, h4, _⟩
    · cases h1
    · simp only [Value.slice.injEq] at h1
      omega
  have M2 : Hid ((Below w.heap.size w w2 ∧ Box w2 (w.heap.size) 63 #[.int .i64 fp, .int .i64 fa, .int .i64 fw, .int .i64 lg, .slice (some ⟨bb, bo, none⟩) nb bk] ∧ Box w2 (w.heap.size + 1) 63 #[.int .i64 0, .int .i64 0, .int .i64 0, .int .i64 0, .slice none 0 0]) ∧ VOwn w.heap.size 113 4 w2 (.slice (some ⟨g, 0, none⟩) N gc) N (intF (tgF v (stG v fp fa fw lg nb B)))) := ⟨⟨M1.out.1.1.trans (hb2.mono M1.out.1.1.size), M1.out.1.2.1.mono hb2 (Nat.le_refl _), M1.out.1.2.2.mono hb2 (Nat.le_refl _)⟩, hl2.keep M1.out.1.1.size fun _ _ => rfl⟩
  clear hl2 hb2 M1
  go_wp2_with fail
  refine (reverse75 w.heap.size g gc N (tgF v (stG v fp fa fw lg nb B)) w2 hN0 (by omega) M2.out.2).mono ?_
  rintro e w3 ⟨rfl, hl3, hf3⟩
  have M3 : Hid ((Below w.heap.size w w3 ∧ Box w3 (w.heap.size) 63 #[.int .i64 fp, .int .i64 fa, .int .i64 fw, .int .i64 lg, .slice (some ⟨bb, bo, none⟩) nb bk] ∧ Box w3 (w.heap.size + 1) 63 #[.int .i64 0, .int .i64 0, .int .i64 0, .int .i64 0, .slice none 0 0]) ∧ VOwn w.heap.size 113 4 w3 (.slice (some ⟨g, 0, none⟩) N gc) N (intF (rtF v fp fa fw lg nb B))) := ⟨⟨M2.out.1.1.trans (hf3.below M2.out.1.1.size (fun b hb e => by have := M2.out.2.lt (g := g) rfl; omega)), M2.out.1.2.1.fr hf3 (fun e => (M2.out.2.off M2.out.1.2.1 (by decide) (g := g) rfl) e.symm), M2.out.1.2.2.fr hf3 (fun e => (M2.out.2.off M2.out.1.2.2 (by decide) (g := g) rfl) e.symm)⟩, hl3.congr fun i _ j _ => by
    show Value.int .i64 (tgF v (stG v fp fa fw lg nb B) (N - 1 - i) j) = Value.int .i64 (rtF v fp fa fw lg nb B i j)
    rw [rtF, HNN.out]⟩
  clear hl3 hf3 M2
  have HL4 : Hid ((∀ W, VOwn w.heap.size 113 4 W (.slice (some ⟨g, 0, none⟩) N gc) N (intF (rtF v fp fa fw lg nb B)) → W.cell? ⟨g, 0, none⟩ = some (.int .i64 (sp : Int))) ∧ (∀ W, VOwn w.heap.size 113 4 W (.slice (some ⟨g, 0, none⟩) N gc) N (intF (rtF v fp fa fw lg nb B)) → W.cell? ⟨g, 1, none⟩ = some (.int .i64 nw)) ∧ (∀ W, VOwn w.heap.size 113 4 W (.slice (some ⟨g, 0, none⟩) N gc) N (intF (rtF v fp fa fw lg nb B)) → W.cell? ⟨g, 2, none⟩ = some (.int .i64 t2)) ∧ (∀ W, VOwn w.heap.size 113 4 W (.slice (some ⟨g, 0, none⟩) N gc) N (intF (rtF v fp fa fw lg nb B)) → W.cell? ⟨g, 3, none⟩ = some (.int .i64 tt))) := by
    refine ⟨fun W hW => ?_, fun W hW => ?_, fun W hW => ?_, fun W hW => ?_⟩
    · have h9 := hW.cell (i := 0) (j := 0) (by omega) (by omega)
      rw [intF, HRT.out.1] at h9
      simpa using h9
    · have h9 := hW.cell (i := 0) (j := 1) (by omega) (by omega)
      rw [intF, HRT.out.2.1] at h9
      simpa using h9
    · have h9 := hW.cell (i := 0) (j := 2) (by omega) (by omega)
      rw [intF, HRT.out.2.2.1] at h9
      simpa using h9
    · have h9 := hW.cell (i := 0) (j := 3) (by omega) (by omega)
      rw [intF, HRT.out.2.2.2] at h9
      simpa using h9
  have MD : Hid ((Below w.heap.size w w3.drew ∧ Box w3.drew (w.heap.size) 63 #[.int .i64 fp, .int .i64 fa, .int .i64 fw, .int .i64 lg, .slice (some ⟨bb, bo, none⟩) nb bk] ∧ Box w3.drew (w.heap.size + 1) 63 #[.int .i64 0, .int .i64 0, .int .i64 0, .int .i64 0, .slice none 0 0]) ∧ VOwn w.heap.size 113 4 w3.drew (.slice (some ⟨g, 0, none⟩) N gc) N (intF (rtF v fp fa fw lg nb B))) := ⟨⟨M3.out.1.1.drew, M3.out.1.2.1.drew, M3.out.1.2.2.drew⟩, M3.out.2⟩
  have hN0i : (0 : Int) < (N : Int) := by omega
  have c0 := HL4.out.1 _ M3.out.2
  have c1 := HL4.out.2.1 _ M3.out.2
  have c2 := HL4.out.2.2.1 _ M3.out.2
  have c3 := HL4.out.2.2.2 _ M3.out.2
  have a0 : w3.cell? ⟨w.heap.size, 0, none⟩ = some (.int .i64 fp) := M3.out.1.2.1.cell 0
  have a1 : w3.cell? ⟨w.heap.size, 1, none⟩ = some (.int .i64 fa) := M3.out.1.2.1.cell 1
  have a2 : w3.cell? ⟨w.heap.size, 2, none⟩ = some (.int .i64 fw) := M3.out.1.2.1.cell 2
  have a3 : w3.cell? ⟨w.heap.size, 3, none⟩ = some (.int .i64 lg) := M3.out.1.2.1.cell 3
  have a4 : w3.cell? ⟨w.heap.size, 4, none⟩ = some (.slice (some ⟨bb, bo, none⟩) nb bk) := M3.out.1.2.1.cell 4
  clear M3
  go_upto_region 3 with fail
  go_wp2_with fail
  refine wp_region_held_drew (S := (fun wx : World => wx.cell? ⟨w.heap.size, 0, none⟩ = some (.int .i64 fp) ∧ wx.cell? ⟨w.heap.size, 1, none⟩ = some (.int .i64 fa) ∧ wx.cell? ⟨w.heap.size, 2, none⟩ = some (.int .i64 fw) ∧ wx.cell? ⟨w.heap.size, 3, none⟩ = some (.int .i64 lg) ∧ wx.cell? ⟨w.heap.size, 4, none⟩ = some (.slice (some ⟨bb, bo, none⟩) nb bk) ∧ wx.cell? ⟨g, 0, none⟩ = some (.int .i64 (sp : Int)) ∧ wx.cell? ⟨g, 1, none⟩ = some (.int .i64 nw) ∧ wx.cell? ⟨g, 2, none⟩ = some (.int .i64 t2) ∧ wx.cell? ⟨g, 3, none⟩ = some (.int .i64 tt))) (by kernel_rfl) ?_ (fun hHeld => ?_)
  · exact ⟨a0, a1, a2, a3, a4, c0, c1, c2, c3⟩
  clear a0 a1 a2 a3 a4 c0 c1 c2 c3
  generalize w3.drew = VD at MD hHeld ⊢
  refine tk 0 ?_
  refine tk 1 ?_
  refine tk 2 ?_
  refine tk 3 ?_
  refine tk 4 ?_
  refine tk 5 ?_
  refine tk 6 ?_
  refine tk 7 ?_
  refine tk 8 ?_
  refine tk 10 ?_
  refine tk 11 ?_
  refine ready2_lit (i := 9) (j := 13) (by kernel_rfl) rfl rfl (fun K hK => ?_) (fun K hK => ?_)
  · go_simp
    refine (spot76 H.out.1 sp nw tt _ (H.out.2.2.1.mono MD.out.1.1 (Nat.le_refl _)) hspn htt).mono ?_
    rintro e w4 ⟨he, hb⟩
    rw [HA1.out] at he
    subst he
    have M4 : Hid ((Below w.heap.size w w4 ∧ Box w4 (w.heap.size) 63 #[.int .i64 fp, .int .i64 fa, .int .i64 fw, .int .i64 lg, .slice (some ⟨bb, bo, none⟩) nb bk] ∧ Box w4 (w.heap.size + 1) 63 #[.int .i64 0, .int .i64 0, .int .i64 0, .int .i64 0, .slice none 0 0]) ∧ VOwn w.heap.size 113 4 w4 (.slice (some ⟨g, 0, none⟩) N gc) N (intF (rtF v fp fa fw lg nb B))) := ⟨⟨MD.out.1.1.trans (hb.mono MD.out.1.1.size), MD.out.1.2.1.mono hb (Nat.le_refl _), MD.out.1.2.2.mono hb (Nat.le_refl _)⟩, MD.out.2.mono (Nat.le_refl _) hb (Nat.le_refl _)⟩
    clear hb MD
    go_wp2_with fail
    refine hK.out _ _ ?_ (fun hHeld => ?_)
    · exact ⟨M4.out.1.2.1.cell 0, M4.out.1.2.1.cell 1, M4.out.1.2.1.cell 2, M4.out.1.2.1.cell 3, M4.out.1.2.1.cell 4, HL4.out.1 _ M4.out.2, HL4.out.2.1 _ M4.out.2, HL4.out.2.2.1 _ M4.out.2, HL4.out.2.2.2 _ M4.out.2⟩
    clear hK K
    refine tk 12 ?_
    refine rl 13 fun K hK => ?_
    have M5x : Hid (((Below w.heap.size w (w4.alloc (.cells #[.int .i64 0, .int .i64 0, .int .i64 0, .int .i64 0, .slice none 0 0] 63)) ∧ Box (w4.alloc (.cells #[.int .i64 0, .int .i64 0, .int .i64 0, .int .i64 0, .slice none 0 0] 63)) (w.heap.size) 63 #[.int .i64 fp, .int .i64 fa, .int .i64 fw, .int .i64 lg, .slice (some ⟨bb, bo, none⟩) nb bk] ∧ Box (w4.alloc (.cells #[.int .i64 0, .int .i64 0, .int .i64 0, .int .i64 0, .slice none 0 0] 63)) (w.heap.size + 1) 63 #[.int .i64 0, .int .i64 0, .int .i64 0, .int .i64 0, .slice none 0 0] ∧ Box (w4.alloc (.cells #[.int .i64 0, .int .i64 0, .int .i64 0, .int .i64 0, .slice none 0 0] 63)) w4.heap.size 63 #[.int .i64 0, .int .i64 0, .int .i64 0, .int .i64 0, .slice none 0 0]) ∧ VOwn w.heap.size 113 4 (w4.alloc (.cells #[.int .i64 0, .int .i64 0, .int .i64 0, .int .i64 0, .slice none 0 0] 63)) (.slice (some ⟨g, 0, none⟩) N gc) N (intF (rtF v fp fa fw lg nb B))) ∧ w.heap.size + 1 < w4.heap.size) := ⟨⟨⟨M4.out.1.1.alloc M4.out.1.1.size _, M4.out.1.2.1.alloc _, M4.out.1.2.2.alloc _, Box.new _ _ _⟩, M4.out.2.alloc _⟩, M4.out.1.2.2.lt⟩
    clear M4
    go_simp
    refine hK.out _ _ ?_ (fun hHeld => ?_)
    · exact ⟨M5x.out.1.1.2.1.cell 0, M5x.out.1.1.2.1.cell 1, M5x.out.1.1.2.1.cell 2, M5x.out.1.1.2.1.cell 3, M5x.out.1.1.2.1.cell 4, HL4.out.1 _ M5x.out.1.2, HL4.out.2.1 _ M5x.out.1.2, HL4.out.2.2.1 _ M5x.out.1.2, HL4.out.2.2.2 _ M5x.out.1.2⟩
    clear hK K hHeld
    generalize w4.alloc (.cells #[.int .i64 0, .int .i64 0, .int .i64 0, .int .i64 0, .slice none 0 0] 63) = w5 at M5x ⊢
    generalize w4.heap.size = ob at M5x ⊢
    have HOB : Hid (w.heap.size + 1 < ob) := M5x.out.2
    have HOB2 : Hid (w.heap.size ≤ ob) := by have := HOB.out; show _ ≤ _; omega
    have M5 : Hid ((Below w.heap.size w w5 ∧ Box w5 (w.heap.size) 63 #[.int .i64 fp, .int .i64 fa, .int .i64 fw, .int .i64 lg, .slice (some ⟨bb, bo, none⟩) nb bk] ∧ Box w5 (w.heap.size + 1) 63 #[.int .i64 0, .int .i64 0, .int .i64 0, .int .i64 0, .slice none 0 0] ∧ Box w5 (ob) 63 #[.int .i64 0, .int .i64 0, .int .i64 0, .int .i64 0, .slice none 0 0]) ∧ VOwn w.heap.size 113 4 w5 (.slice (some ⟨g, 0, none⟩) N gc) N (intF (rtF v fp fa fw lg nb B))) := M5x.out.1
    clear M5x
    have z0 : w5.cell? ⟨ob, 0, none⟩ = some (.int .i64 0) := M5.out.1.2.2.2.cell 0
    have z1 : w5.cell? ⟨ob, 1, none⟩ = some (.int .i64 0) := M5.out.1.2.2.2.cell 1
    have z2 : w5.cell? ⟨ob, 2, none⟩ = some (.int .i64 0) := M5.out.1.2.2.2.cell 2
    have z3 : w5.cell? ⟨ob, 3, none⟩ = some (.int .i64 0) := M5.out.1.2.2.2.cell 3
    have z4 : w5.cell? ⟨ob, 4, none⟩ = some (.slice none 0 0) := M5.out.1.2.2.2.cell 4
    have q0 := M5.out.1.2.2.2.free 0
    have q1 := M5.out.1.2.2.2.free 1
    have q2 := M5.out.1.2.2.2.free 2
    have q3 := M5.out.1.2.2.2.free 3
    have q4 := M5.out.1.2.2.2.free 4
    have e0 : w.heap.size ≠ ob := by have := HOB.out; omega
    have e1 : w.heap.size + 1 ≠ ob := by have := HOB.out; omega
    have MF : Hid ((Below w.heap.size w (((((w5.setCell ⟨ob, 0, none⟩ (.int .i64 (sp : Int))).setCell ⟨ob, 1, none⟩ (.int .i64 at1)).setCell ⟨ob, 2, none⟩ (.int .i64 nw)).setCell ⟨ob, 3, none⟩ (.int .i64 lg)).setCell ⟨ob, 4, none⟩ (.slice none 0 0)) ∧ Box (((((w5.setCell ⟨ob, 0, none⟩ (.int .i64 (sp : Int))).setCell ⟨ob, 1, none⟩ (.int .i64 at1)).setCell ⟨ob, 2, none⟩ (.int .i64 nw)).setCell ⟨ob, 3, none⟩ (.int .i64 lg)).setCell ⟨ob, 4, none⟩ (.slice none 0 0)) (w.heap.size) 63 #[.int .i64 fp, .int .i64 fa, .int .i64 fw, .int .i64 lg, .slice (some ⟨bb, bo, none⟩) nb bk] ∧ Box (((((w5.setCell ⟨ob, 0, none⟩ (.int .i64 (sp : Int))).setCell ⟨ob, 1, none⟩ (.int .i64 at1)).setCell ⟨ob, 2, none⟩ (.int .i64 nw)).setCell ⟨ob, 3, none⟩ (.int .i64 lg)).setCell ⟨ob, 4, none⟩ (.slice none 0 0)) (w.heap.size + 1) 63 #[.int .i64 0, .int .i64 0, .int .i64 0, .int .i64 0, .slice none 0 0] ∧ Box (((((w5.setCell ⟨ob, 0, none⟩ (.int .i64 (sp : Int))).setCell ⟨ob, 1, none⟩ (.int .i64 at1)).setCell ⟨ob, 2, none⟩ (.int .i64 nw)).setCell ⟨ob, 3, none⟩ (.int .i64 lg)).setCell ⟨ob, 4, none⟩ (.slice none 0 0)) (ob) 63 #[.int .i64 (sp : Int), .int .i64 at1, .int .i64 nw, .int .i64 lg, .slice none 0 0]) ∧ VOwn w.heap.size 113 4 (((((w5.setCell ⟨ob, 0, none⟩ (.int .i64 (sp : Int))).setCell ⟨ob, 1, none⟩ (.int .i64 at1)).setCell ⟨ob, 2, none⟩ (.int .i64 nw)).setCell ⟨ob, 3, none⟩ (.int .i64 lg)).setCell ⟨ob, 4, none⟩ (.slice none 0 0)) (.slice (some ⟨g, 0, none⟩) N gc) N (intF (rtF v fp fa fw lg nb B))) := ⟨⟨(((((M5.out.1.1.setCell HOB2.out _).setCell HOB2.out _).setCell HOB2.out _).setCell HOB2.out _).setCell HOB2.out _), (((((M5.out.1.2.1.other e0 _).other e0 _).other e0 _).other e0 _).other e0 _), (((((M5.out.1.2.2.1.other e1 _).other e1 _).other e1 _).other e1 _).other e1 _), by
      have h9 := (((((M5.out.1.2.2.2.set 0 (.int .i64 (sp : Int))).set 1 (.int .i64 at1)).set 2 (.int .i64 nw)).set 3 (.int .i64 lg)).set 4 (.slice none 0 0))
      exact h9⟩, (((((M5.out.2.set M5.out.1.2.2.2 (by decide) 0 _).set (M5.out.1.2.2.2.set 0 (.int .i64 (sp : Int))) (by decide) 1 _).set ((M5.out.1.2.2.2.set 0 (.int .i64 (sp : Int))).set 1 (.int .i64 at1)) (by decide) 2 _).set (((M5.out.1.2.2.2.set 0 (.int .i64 (sp : Int))).set 1 (.int .i64 at1)).set 2 (.int .i64 nw)) (by decide) 3 _).set ((((M5.out.1.2.2.2.set 0 (.int .i64 (sp : Int))).set 1 (.int .i64 at1)).set 2 (.int .i64 nw)).set 3 (.int .i64 lg)) (by decide) 4 _)⟩
    clear M5
    refine rl 14 fun K hK => ?_
    go_simp
    refine hK.out _ _ ?_ (fun hHeld => ?_)
    · exact ⟨MF.out.1.2.1.cell 0, MF.out.1.2.1.cell 1, MF.out.1.2.1.cell 2, MF.out.1.2.1.cell 3, MF.out.1.2.1.cell 4, HL4.out.1 _ MF.out.2, HL4.out.2.1 _ MF.out.2, HL4.out.2.2.1 _ MF.out.2, HL4.out.2.2.2 _ MF.out.2⟩
    clear hK K hHeld z0 z1 z2 z3 z4 q0 q1 q2 q3 q4
    refine wpAnyH_done (by kernel_rfl) ?_ _
    generalize (((((w5.setCell ⟨ob, 0, none⟩ (.int .i64 (sp : Int))).setCell ⟨ob, 1, none⟩ (.int .i64 at1)).setCell ⟨ob, 2, none⟩ (.int .i64 nw)).setCell ⟨ob, 3, none⟩ (.int .i64 lg)).setCell ⟨ob, 4, none⟩ (.slice none 0 0)) = W9 at MF ⊢
    by_cases hg1 : gc = 1
    · subst hg1
      have T0 : Hid (((Below w.heap.size w W9 ∧ Box W9 (w.heap.size) 63 #[.int .i64 fp, .int .i64 fa, .int .i64 fw, .int .i64 lg, .slice (some ⟨bb, bo, none⟩) nb bk] ∧ Box W9 (w.heap.size + 1) 63 #[.int .i64 0, .int .i64 0, .int .i64 0, .int .i64 0, .slice none 0 0] ∧ Box W9 (ob) 63 #[.int .i64 (sp : Int), .int .i64 at1, .int .i64 nw, .int .i64 lg, .slice none 0 0]) ∧ VOwn w.heap.size 113 4 W9 (.slice (some ⟨g, 0, none⟩) N 1) N (intF (rtF v fp fa fw lg nb B))) ∧ VOwn w.heap.size 79 2 W9 (.slice none 0 0) 0 (intF (bkF fp fw nb B))) := ⟨MF.out, VOwn.nil _ _ _ _ _⟩
      clear MF
      have h1N : (1 : Int) ≤ (N : Int) := by omega
      have h1N' : 1 ≤ N := by omega
      have hNc : (N : Int) ≤ (1 : Int) := by omega
      go_wp2_with fail
      go_loopw [33] (fun c wr => ∃ (k : Nat) (xa : Option Addr) (xc : Nat), k ≤ N - 1 ∧ c = .int .i64 k ∧ Hid (((Below w.heap.size w wr ∧ Box wr (w.heap.size) 63 #[.int .i64 fp, .int .i64 fa, .int .i64 fw, .int .i64 lg, .slice (some ⟨bb, bo, none⟩) nb bk] ∧ Box wr (w.heap.size + 1) 63 #[.int .i64 0, .int .i64 0, .int .i64 0, .int .i64 0, .slice none 0 0] ∧ Box wr (ob) 63 #[.int .i64 (sp : Int), .int .i64 at1, .int .i64 nw, .int .i64 lg, .slice xa k xc]) ∧ VOwn w.heap.size 113 4 wr (.slice (some ⟨g, 0, none⟩) N 1) N (intF (rtF v fp fa fw lg nb B))) ∧ VOwn w.heap.size 79 2 wr (.slice xa k xc) k (intF (bkF fp fw nb B)))) (fun c _ => N - 1 - (intOf c).toNat)
      case atStart => exact ⟨0, none, 0, Nat.zero_le _, rfl, T0⟩
      case round =>
        clear T0
        obtain ⟨k, xa, xc, hk, rfl, D⟩ := hrel
        by_cases hlt : k < N - 1
        · exact absurd hlt (by omega)
        · obtain ⟨m, HM⟩ : ∃ m, Hid (m = k ∧ m = nb - noF v fp fa fw B) := ⟨k, rfl, by have := HNN.out; omega⟩
          obtain rfl : m = k := HM.out.1
          have hge : ¬ (m : Int) < ((N - 1 : Nat) : Int) := by omega
          have hge2 : ¬ (m : Int) < (N : Int) - 1 := by omega
          have F9 : Hid ((Below w.heap.size w (((((wr.setCell ⟨w.heap.size + 1, 0, none⟩ (.int .i64 (sp : Int))).setCell ⟨w.heap.size + 1, 1, none⟩ (.int .i64 at1)).setCell ⟨w.heap.size + 1, 2, none⟩ (.int .i64 nw)).setCell ⟨w.heap.size + 1, 3, none⟩ (.int .i64 lg)).setCell ⟨w.heap.size + 1, 4, none⟩ (.slice xa m xc)) ∧ Box (((((wr.setCell ⟨w.heap.size + 1, 0, none⟩ (.int .i64 (sp : Int))).setCell ⟨w.heap.size + 1, 1, none⟩ (.int .i64 at1)).setCell ⟨w.heap.size + 1, 2, none⟩ (.int .i64 nw)).setCell ⟨w.heap.size + 1, 3, none⟩ (.int .i64 lg)).setCell ⟨w.heap.size + 1, 4, none⟩ (.slice xa m xc)) (w.heap.size + 1) 63 #[.int .i64 (sp : Int), .int .i64 at1, .int .i64 nw, .int .i64 lg, .slice xa m xc]) ∧ VOwn w.heap.size 79 2 (((((wr.setCell ⟨w.heap.size + 1, 0, none⟩ (.int .i64 (sp : Int))).setCell ⟨w.heap.size + 1, 1, none⟩ (.int .i64 at1)).setCell ⟨w.heap.size + 1, 2, none⟩ (.int .i64 nw)).setCell ⟨w.heap.size + 1, 3, none⟩ (.int .i64 lg)).setCell ⟨w.heap.size + 1, 4, none⟩ (.slice xa m xc)) (.slice xa m xc) m (intF (bkF fp fw nb B))) := ⟨⟨(((((D.out.1.1.1.setCell (Nat.le_add_right _ 1) _).setCell (Nat.le_add_right _ 1) _).setCell (Nat.le_add_right _ 1) _).setCell (Nat.le_add_right _ 1) _).setCell (Nat.le_add_right _ 1) _), by
            have h9 := (((((D.out.1.1.2.2.1.set 0 (.int .i64 (sp : Int))).set 1 (.int .i64 at1)).set 2 (.int .i64 nw)).set 3 (.int .i64 lg)).set 4 (.slice xa m xc))
            exact h9⟩, (((((D.out.2.keep (Nat.le_refl _) fun b hb => Below.heap_setCell _ _ _ b (by have h8 := D.out.2.off D.out.1.1.2.2.1 (by decide) hb; exact h8)).keep (Nat.le_refl _) fun b hb => Below.heap_setCell _ _ _ b (by have h8 := D.out.2.off D.out.1.1.2.2.1 (by decide) hb; exact h8)).keep (Nat.le_refl _) fun b hb => Below.heap_setCell _ _ _ b (by have h8 := D.out.2.off D.out.1.1.2.2.1 (by decide) hb; exact h8)).keep (Nat.le_refl _) fun b hb => Below.heap_setCell _ _ _ b (by have h8 := D.out.2.off D.out.1.1.2.2.1 (by decide) hb; exact h8)).keep (Nat.le_refl _) fun b hb => Below.heap_setCell _ _ _ b (by have h8 := D.out.2.off D.out.1.1.2.2.1 (by decide) hb; exact h8))⟩
          have x0 : wr.cell? ⟨ob, 0, none⟩ = some (.int .i64 (sp : Int)) := D.out.1.1.2.2.2.cell 0
          have x1 : wr.cell? ⟨ob, 1, none⟩ = some (.int .i64 at1) := D.out.1.1.2.2.2.cell 1
          have x2 : wr.cell? ⟨ob, 2, none⟩ = some (.int .i64 nw) := D.out.1.1.2.2.2.cell 2
          have x3 : wr.cell? ⟨ob, 3, none⟩ = some (.int .i64 lg) := D.out.1.1.2.2.2.cell 3
          have x4 : wr.cell? ⟨ob, 4, none⟩ = some (.slice xa m xc) := D.out.1.1.2.2.2.cell 4
          have z0 : wr.cell? ⟨w.heap.size + 1, 0, none⟩ = some (.int .i64 0) := D.out.1.1.2.2.1.cell 0
          have z1 : wr.cell? ⟨w.heap.size + 1, 1, none⟩ = some (.int .i64 0) := D.out.1.1.2.2.1.cell 1
          have z2 : wr.cell? ⟨w.heap.size + 1, 2, none⟩ = some (.int .i64 0) := D.out.1.1.2.2.1.cell 2
          have z3 : wr.cell? ⟨w.heap.size + 1, 3, none⟩ = some (.int .i64 0) := D.out.1.1.2.2.1.cell 3
          have z4 : wr.cell? ⟨w.heap.size + 1, 4, none⟩ = some (.slice none 0 0) := D.out.1.1.2.2.1.cell 4
          have q0 := D.out.1.1.2.2.1.free 0
          have q1 := D.out.1.1.2.2.1.free 1
          have q2 := D.out.1.1.2.2.1.free 2
          have q3 := D.out.1.1.2.2.1.free 3
          have q4 := D.out.1.1.2.2.1.free 4
          clear D
          go_wp2_with fail
          clear x0 x1 x2 x3 x4 z0 z1 z2 z3 z4 q0 q1 q2 q3 q4
          generalize (((((wr.setCell ⟨w.heap.size + 1, 0, none⟩ (.int .i64 (sp : Int))).setCell ⟨w.heap.size + 1, 1, none⟩ (.int .i64 at1)).setCell ⟨w.heap.size + 1, 2, none⟩ (.int .i64 nw)).setCell ⟨w.heap.size + 1, 3, none⟩ (.int .i64 lg)).setCell ⟨w.heap.size + 1, 4, none⟩ (.slice xa m xc)) = W8 at F9 ⊢
          have z0 : W8.cell? ⟨w.heap.size + 1, 0, none⟩ = some (.int .i64 (sp : Int)) := F9.out.1.2.cell 0
          have z1 : W8.cell? ⟨w.heap.size + 1, 1, none⟩ = some (.int .i64 at1) := F9.out.1.2.cell 1
          have z2 : W8.cell? ⟨w.heap.size + 1, 2, none⟩ = some (.int .i64 nw) := F9.out.1.2.cell 2
          have z3 : W8.cell? ⟨w.heap.size + 1, 3, none⟩ = some (.int .i64 lg) := F9.out.1.2.cell 3
          have z4 : W8.cell? ⟨w.heap.size + 1, 4, none⟩ = some (.slice xa m xc) := F9.out.1.2.cell 4
          exact bodyPost_ret (v := .agg #[.int .i64 (sp : Int), .int .i64 at1, .int .i64 nw, .int .i64 lg, .slice xa m xc]) (by simp [results, Tryz.results42, go_sem, z0, z1, z2, z3, z4]) rfl ⟨xa, xc, by rw [HSP.out, HNW.out, HAT.out, ← HM.out.2], by rw [← HM.out.2]; exact F9.out.2, F9.out.1.1⟩
    · have hg2 : 1 < gc := by omega
      have T0 : Hid (((Below w.heap.size w W9 ∧ Box W9 (w.heap.size) 63 #[.int .i64 fp, .int .i64 fa, .int .i64 fw, .int .i64 lg, .slice (some ⟨bb, bo, none⟩) nb bk] ∧ Box W9 (w.heap.size + 1) 63 #[.int .i64 0, .int .i64 0, .int .i64 0, .int .i64 0, .slice none 0 0] ∧ Box W9 (ob) 63 #[.int .i64 (sp : Int), .int .i64 at1, .int .i64 nw, .int .i64 lg, .slice none 0 0]) ∧ VOwn w.heap.size 113 4 W9 (.slice (some ⟨g, 0, none⟩) N gc) N (intF (rtF v fp fa fw lg nb B))) ∧ VOwn w.heap.size 79 2 W9 (.slice none 0 0) 0 (intF (bkF fp fw nb B))) := ⟨MF.out, VOwn.nil _ _ _ _ _⟩
      clear MF
      have h1N : (1 : Int) ≤ (N : Int) := by omega
      have h1N' : 1 ≤ N := by omega
      have hNc : (N : Int) ≤ (gc : Int) := by omega
      go_wp2_with fail
      go_loopw [33] (fun c wr => ∃ (k : Nat) (xa : Option Addr) (xc : Nat), k ≤ N - 1 ∧ c = .int .i64 k ∧ Hid (((Below w.heap.size w wr ∧ Box wr (w.heap.size) 63 #[.int .i64 fp, .int .i64 fa, .int .i64 fw, .int .i64 lg, .slice (some ⟨bb, bo, none⟩) nb bk] ∧ Box wr (w.heap.size + 1) 63 #[.int .i64 0, .int .i64 0, .int .i64 0, .int .i64 0, .slice none 0 0] ∧ Box wr (ob) 63 #[.int .i64 (sp : Int), .int .i64 at1, .int .i64 nw, .int .i64 lg, .slice xa k xc]) ∧ VOwn w.heap.size 113 4 wr (.slice (some ⟨g, 0, none⟩) N gc) N (intF (rtF v fp fa fw lg nb B))) ∧ VOwn w.heap.size 79 2 wr (.slice xa k xc) k (intF (bkF fp fw nb B)))) (fun c _ => N - 1 - (intOf c).toNat)
      case atStart => exact ⟨0, none, 0, Nat.zero_le _, rfl, T0⟩
      case round =>
        clear T0
        obtain ⟨k, xa, xc, hk, rfl, D⟩ := hrel
        by_cases hlt : k < N - 1
        · have hk0 : (0 : Int) ≤ (k : Int) := by omega
          have hkn : (k : Int) < ((N - 1 : Nat) : Int) := by omega
          have hkn2 : (k : Int) < (N : Int) - 1 := by omega
          obtain ⟨s0, HS0⟩ : ∃ q, Hid (rtF v fp fa fw lg nb B (k + 1) 0 = q) := ⟨_, rfl⟩
          obtain ⟨s1, HS1⟩ : ∃ q, Hid (rtF v fp fa fw lg nb B (k + 1) 1 = q) := ⟨_, rfl⟩
          obtain ⟨s2, HS2⟩ : ∃ q, Hid (rtF v fp fa fw lg nb B (k + 1) 2 = q) := ⟨_, rfl⟩
          obtain ⟨s3, HS3⟩ : ∃ q, Hid (rtF v fp fa fw lg nb B (k + 1) 3 = q) := ⟨_, rfl⟩
          have d0 : wr.cell? ⟨g, 4 + k * 4, none⟩ = some (.int .i64 s0) := by
            have h9 := D.out.1.2.cell (i := k + 1) (j := 0) (by omega) (by omega)
            rw [← HS0.out, show 4 + k * 4 = (k + 1) * 4 + 0 by omega]
            exact h9
          have d1 : wr.cell? ⟨g, 4 + k * 4 + 1, none⟩ = some (.int .i64 s1) := by
            have h9 := D.out.1.2.cell (i := k + 1) (j := 1) (by omega) (by omega)
            rw [← HS1.out, show 4 + k * 4 + 1 = (k + 1) * 4 + 1 by omega]
            exact h9
          have d2 : wr.cell? ⟨g, 4 + k * 4 + 2, none⟩ = some (.int .i64 s2) := by
            have h9 := D.out.1.2.cell (i := k + 1) (j := 2) (by omega) (by omega)
            rw [← HS2.out, show 4 + k * 4 + 2 = (k + 1) * 4 + 2 by omega]
            exact h9
          have d3 : wr.cell? ⟨g, 4 + k * 4 + 3, none⟩ = some (.int .i64 s3) := by
            have h9 := D.out.1.2.cell (i := k + 1) (j := 3) (by omega) (by omega)
            rw [← HS3.out, show 4 + k * 4 + 3 = (k + 1) * 4 + 3 by omega]
            exact h9
          have D1 : Hid ((((Below w.heap.size w (wr.alloc (.cells #[.int .i64 s0, .int .i64 s1, .int .i64 s2, .int .i64 s3] 113)) ∧ Box (wr.alloc (.cells #[.int .i64 s0, .int .i64 s1, .int .i64 s2, .int .i64 s3] 113)) (w.heap.size) 63 #[.int .i64 fp, .int .i64 fa, .int .i64 fw, .int .i64 lg, .slice (some ⟨bb, bo, none⟩) nb bk] ∧ Box (wr.alloc (.cells #[.int .i64 s0, .int .i64 s1, .int .i64 s2, .int .i64 s3] 113)) (w.heap.size + 1) 63 #[.int .i64 0, .int .i64 0, .int .i64 0, .int .i64 0, .slice none 0 0] ∧ Box (wr.alloc (.cells #[.int .i64 s0, .int .i64 s1, .int .i64 s2, .int .i64 s3] 113)) (ob) 63 #[.int .i64 (sp : Int), .int .i64 at1, .int .i64 nw, .int .i64 lg, .slice xa k xc]) ∧ VOwn w.heap.size 113 4 (wr.alloc (.cells #[.int .i64 s0, .int .i64 s1, .int .i64 s2, .int .i64 s3] 113)) (.slice (some ⟨g, 0, none⟩) N gc) N (intF (rtF v fp fa fw lg nb B))) ∧ VOwn w.heap.size 79 2 (wr.alloc (.cells #[.int .i64 s0, .int .i64 s1, .int .i64 s2, .int .i64 s3] 113)) (.slice xa k xc) k (intF (bkF fp fw nb B))) ∧ Box (wr.alloc (.cells #[.int .i64 s0, .int .i64 s1, .int .i64 s2, .int .i64 s3] 113)) wr.heap.size 113 #[.int .i64 s0, .int .i64 s1, .int .i64 s2, .int .i64 s3]) := ⟨⟨⟨⟨D.out.1.1.1.alloc D.out.1.1.1.size _, D.out.1.1.2.1.alloc _, D.out.1.1.2.2.1.alloc _, D.out.1.1.2.2.2.alloc _⟩, D.out.1.2.alloc _⟩, D.out.2.alloc _⟩, Box.new _ _ _⟩
          clear D
          go_upto_region 7 with fail
          clear d0 d1 d2 d3
          generalize wr.alloc (.cells #[.int .i64 s0, .int .i64 s1, .int .i64 s2, .int .i64 s3] 113) = V5 at D1 ⊢
          generalize wr.heap.size = sq at D1 ⊢
          have y0 : V5.cell? ⟨sq, 0, none⟩ = some (.int .i64 s0) := D1.out.2.cell 0
          have y1 : V5.cell? ⟨sq, 1, none⟩ = some (.int .i64 s1) := D1.out.2.cell 1
          have o4 : V5.cell? ⟨ob, 4, none⟩ = some (.slice xa k xc) := D1.out.1.1.1.2.2.2.cell 4
          have HVS : Hid ((#[.int .i64 s0, .int .i64 s1] : Array Value).toList = (List.range 2).map (intF (bkF fp fw nb B) k)) := by
            have hb2 := rt_back H.out.2.1 (i := k) (by have := HNN.out; omega)
            have e0 : bkF fp fw nb B k 0 = s0 := hb2.1.symm.trans HS0.out
            have e1 : bkF fp fw nb B k 1 = s1 := hb2.2.symm.trans HS1.out
            show _ = _
            simp [List.range_succ, intF, e0, e1]
          have hsz : w.heap.size ≤ (V5.alloc (.cells #[.int .i64 s0, .int .i64 s1] 79)).heap.size := (D1.out.1.1.1.1.alloc D1.out.1.1.1.1.size _).size
          go_wp2_with (at_builtin; go_must (refine wpList_vapp _ rfl _ _ 41 rfl w.heap.size 79 i0 _ 2 16 Tryz.underlying41 hi0 hz0 hs0 hb0 rfl (by decide) (.slice xa k xc) k (intF (bkF fp fw nb B)) rfl (D1.out.1.2.alloc _) (fun _ _ => rfl) V5.heap.size 1 #[.int .i64 s0, .int .i64 s1] rfl (Box.new _ _ _) HVS.out (by simp only [maxLen]; omega) (by omega) hsz (Halt.mk ?_)))
          intro v2 w6 ho2 hg2
          have HAp := app2 D1.out.1.1.1.1 D1.out.1.1.2 D1.out.1.2 ho2 hg2
          obtain ⟨a2, c2, rfl⟩ := ho2.val
          have E6 : Hid ((Below w.heap.size w w6 ∧ Box w6 (w.heap.size) 63 #[.int .i64 fp, .int .i64 fa, .int .i64 fw, .int .i64 lg, .slice (some ⟨bb, bo, none⟩) nb bk] ∧ Box w6 (w.heap.size + 1) 63 #[.int .i64 0, .int .i64 0, .int .i64 0, .int .i64 0, .slice none 0 0] ∧ Box w6 (ob) 63 #[.int .i64 (sp : Int), .int .i64 at1, .int .i64 nw, .int .i64 lg, .slice xa k xc]) ∧ VOwn w.heap.size 113 4 w6 (.slice (some ⟨g, 0, none⟩) N gc) N (intF (rtF v fp fa fw lg nb B)) ∧ VOwn w.heap.size 79 2 w6 (.slice a2 (k + 1) c2) (k + 1) (intF (bkF fp fw nb B))) := ⟨⟨HAp.1, HAp.2.2.2 _ _ _ (by decide) D1.out.1.1.1.2.1, HAp.2.2.2 _ _ _ (by decide) D1.out.1.1.1.2.2.1, HAp.2.2.2 _ _ _ (by decide) D1.out.1.1.1.2.2.2⟩, HAp.2.1, HAp.2.2.1⟩
          clear HAp ho2 hg2 hsz D1 y0 y1 o4
          have o4 : w6.cell? ⟨ob, 4, none⟩ = some (.slice xa k xc) := E6.out.1.2.2.2.cell 4
          have q4 := E6.out.1.2.2.2.free 4
          have E7 : Hid (((Below w.heap.size w (w6.setCell ⟨ob, 4, none⟩ (.slice a2 (k + 1) c2)) ∧ Box (w6.setCell ⟨ob, 4, none⟩ (.slice a2 (k + 1) c2)) (w.heap.size) 63 #[.int .i64 fp, .int .i64 fa, .int .i64 fw, .int .i64 lg, .slice (some ⟨bb, bo, none⟩) nb bk] ∧ Box (w6.setCell ⟨ob, 4, none⟩ (.slice a2 (k + 1) c2)) (w.heap.size + 1) 63 #[.int .i64 0, .int .i64 0, .int .i64 0, .int .i64 0, .slice none 0 0] ∧ Box (w6.setCell ⟨ob, 4, none⟩ (.slice a2 (k + 1) c2)) (ob) 63 #[.int .i64 (sp : Int), .int .i64 at1, .int .i64 nw, .int .i64 lg, .slice a2 (k + 1) c2]) ∧ VOwn w.heap.size 113 4 (w6.setCell ⟨ob, 4, none⟩ (.slice a2 (k + 1) c2)) (.slice (some ⟨g, 0, none⟩) N gc) N (intF (rtF v fp fa fw lg nb B))) ∧ VOwn w.heap.size 79 2 (w6.setCell ⟨ob, 4, none⟩ (.slice a2 (k + 1) c2)) (.slice a2 (k + 1) c2) (k + 1) (intF (bkF fp fw nb B))) := ⟨⟨⟨E6.out.1.1.setCell HOB2.out _, E6.out.1.2.1.other e0 _, E6.out.1.2.2.1.other e1 _, by
            have h9 := E6.out.1.2.2.2.set 4 (.slice a2 (k + 1) c2)
            exact h9⟩, E6.out.2.1.set E6.out.1.2.2.2 (by decide) 4 _⟩, E6.out.2.2.set E6.out.1.2.2.2 (by decide) 4 _⟩
          clear E6
          go_wp2_with fail
          clear o4 q4
          go_roundw
          case rel => exact ⟨k + 1, a2, c2, by omega, by go_num, E7⟩
          case measure => simp [intOf]; omega
        · obtain ⟨m, HM⟩ : ∃ m, Hid (m = k ∧ m = nb - noF v fp fa fw B) := ⟨k, rfl, by have := HNN.out; omega⟩
          obtain rfl : m = k := HM.out.1
          have hge : ¬ (m : Int) < ((N - 1 : Nat) : Int) := by omega
          have hge2 : ¬ (m : Int) < (N : Int) - 1 := by omega
          have F9 : Hid ((Below w.heap.size w (((((wr.setCell ⟨w.heap.size + 1, 0, none⟩ (.int .i64 (sp : Int))).setCell ⟨w.heap.size + 1, 1, none⟩ (.int .i64 at1)).setCell ⟨w.heap.size + 1, 2, none⟩ (.int .i64 nw)).setCell ⟨w.heap.size + 1, 3, none⟩ (.int .i64 lg)).setCell ⟨w.heap.size + 1, 4, none⟩ (.slice xa m xc)) ∧ Box (((((wr.setCell ⟨w.heap.size + 1, 0, none⟩ (.int .i64 (sp : Int))).setCell ⟨w.heap.size + 1, 1, none⟩ (.int .i64 at1)).setCell ⟨w.heap.size + 1, 2, none⟩ (.int .i64 nw)).setCell ⟨w.heap.size + 1, 3, none⟩ (.int .i64 lg)).setCell ⟨w.heap.size + 1, 4, none⟩ (.slice xa m xc)) (w.heap.size + 1) 63 #[.int .i64 (sp : Int), .int .i64 at1, .int .i64 nw, .int .i64 lg, .slice xa m xc]) ∧ VOwn w.heap.size 79 2 (((((wr.setCell ⟨w.heap.size + 1, 0, none⟩ (.int .i64 (sp : Int))).setCell ⟨w.heap.size + 1, 1, none⟩ (.int .i64 at1)).setCell ⟨w.heap.size + 1, 2, none⟩ (.int .i64 nw)).setCell ⟨w.heap.size + 1, 3, none⟩ (.int .i64 lg)).setCell ⟨w.heap.size + 1, 4, none⟩ (.slice xa m xc)) (.slice xa m xc) m (intF (bkF fp fw nb B))) := ⟨⟨(((((D.out.1.1.1.setCell (Nat.le_add_right _ 1) _).setCell (Nat.le_add_right _ 1) _).setCell (Nat.le_add_right _ 1) _).setCell (Nat.le_add_right _ 1) _).setCell (Nat.le_add_right _ 1) _), by
            have h9 := (((((D.out.1.1.2.2.1.set 0 (.int .i64 (sp : Int))).set 1 (.int .i64 at1)).set 2 (.int .i64 nw)).set 3 (.int .i64 lg)).set 4 (.slice xa m xc))
            exact h9⟩, (((((D.out.2.keep (Nat.le_refl _) fun b hb => Below.heap_setCell _ _ _ b (by have h8 := D.out.2.off D.out.1.1.2.2.1 (by decide) hb; exact h8)).keep (Nat.le_refl _) fun b hb => Below.heap_setCell _ _ _ b (by have h8 := D.out.2.off D.out.1.1.2.2.1 (by decide) hb; exact h8)).keep (Nat.le_refl _) fun b hb => Below.heap_setCell _ _ _ b (by have h8 := D.out.2.off D.out.1.1.2.2.1 (by decide) hb; exact h8)).keep (Nat.le_refl _) fun b hb => Below.heap_setCell _ _ _ b (by have h8 := D.out.2.off D.out.1.1.2.2.1 (by decide) hb; exact h8)).keep (Nat.le_refl _) fun b hb => Below.heap_setCell _ _ _ b (by have h8 := D.out.2.off D.out.1.1.2.2.1 (by decide) hb; exact h8))⟩
          have x0 : wr.cell? ⟨ob, 0, none⟩ = some (.int .i64 (sp : Int)) := D.out.1.1.2.2.2.cell 0
          have x1 : wr.cell? ⟨ob, 1, none⟩ = some (.int .i64 at1) := D.out.1.1.2.2.2.cell 1
          have x2 : wr.cell? ⟨ob, 2, none⟩ = some (.int .i64 nw) := D.out.1.1.2.2.2.cell 2
          have x3 : wr.cell? ⟨ob, 3, none⟩ = some (.int .i64 lg) := D.out.1.1.2.2.2.cell 3
          have x4 : wr.cell? ⟨ob, 4, none⟩ = some (.slice xa m xc) := D.out.1.1.2.2.2.cell 4
          have z0 : wr.cell? ⟨w.heap.size + 1, 0, none⟩ = some (.int .i64 0) := D.out.1.1.2.2.1.cell 0
          have z1 : wr.cell? ⟨w.heap.size + 1, 1, none⟩ = some (.int .i64 0) := D.out.1.1.2.2.1.cell 1
          have z2 : wr.cell? ⟨w.heap.size + 1, 2, none⟩ = some (.int .i64 0) := D.out.1.1.2.2.1.cell 2
          have z3 : wr.cell? ⟨w.heap.size + 1, 3, none⟩ = some (.int .i64 0) := D.out.1.1.2.2.1.cell 3
          have z4 : wr.cell? ⟨w.heap.size + 1, 4, none⟩ = some (.slice none 0 0) := D.out.1.1.2.2.1.cell 4
          have q0 := D.out.1.1.2.2.1.free 0
          have q1 := D.out.1.1.2.2.1.free 1
          have q2 := D.out.1.1.2.2.1.free 2
          have q3 := D.out.1.1.2.2.1.free 3
          have q4 := D.out.1.1.2.2.1.free 4
          clear D
          go_wp2_with fail
          clear x0 x1 x2 x3 x4 z0 z1 z2 z3 z4 q0 q1 q2 q3 q4
          generalize (((((wr.setCell ⟨w.heap.size + 1, 0, none⟩ (.int .i64 (sp : Int))).setCell ⟨w.heap.size + 1, 1, none⟩ (.int .i64 at1)).setCell ⟨w.heap.size + 1, 2, none⟩ (.int .i64 nw)).setCell ⟨w.heap.size + 1, 3, none⟩ (.int .i64 lg)).setCell ⟨w.heap.size + 1, 4, none⟩ (.slice xa m xc)) = W8 at F9 ⊢
          have z0 : W8.cell? ⟨w.heap.size + 1, 0, none⟩ = some (.int .i64 (sp : Int)) := F9.out.1.2.cell 0
          have z1 : W8.cell? ⟨w.heap.size + 1, 1, none⟩ = some (.int .i64 at1) := F9.out.1.2.cell 1
          have z2 : W8.cell? ⟨w.heap.size + 1, 2, none⟩ = some (.int .i64 nw) := F9.out.1.2.cell 2
          have z3 : W8.cell? ⟨w.heap.size + 1, 3, none⟩ = some (.int .i64 lg) := F9.out.1.2.cell 3
          have z4 : W8.cell? ⟨w.heap.size + 1, 4, none⟩ = some (.slice xa m xc) := F9.out.1.2.cell 4
          exact bodyPost_ret (v := .agg #[.int .i64 (sp : Int), .int .i64 at1, .int .i64 nw, .int .i64 lg, .slice xa m xc]) (by simp [results, Tryz.results42, go_sem, z0, z1, z2, z3, z4]) rfl ⟨xa, xc, by rw [HSP.out, HNW.out, HAT.out, ← HM.out.2], by rw [← HM.out.2]; exact F9.out.2, F9.out.1.1⟩
  · have M4x : Hid (((Below w.heap.size w (VD.alloc (.cells #[.int .i64 0, .int .i64 0, .int .i64 0, .int .i64 0, .slice none 0 0] 63)) ∧ Box (VD.alloc (.cells #[.int .i64 0, .int .i64 0, .int .i64 0, .int .i64 0, .slice none 0 0] 63)) (w.heap.size) 63 #[.int .i64 fp, .int .i64 fa, .int .i64 fw, .int .i64 lg, .slice (some ⟨bb, bo, none⟩) nb bk] ∧ Box (VD.alloc (.cells #[.int .i64 0, .int .i64 0, .int .i64 0, .int .i64 0, .slice none 0 0] 63)) (w.heap.size + 1) 63 #[.int .i64 0, .int .i64 0, .int .i64 0, .int .i64 0, .slice none 0 0] ∧ Box (VD.alloc (.cells #[.int .i64 0, .int .i64 0, .int .i64 0, .int .i64 0, .slice none 0 0] 63)) VD.heap.size 63 #[.int .i64 0, .int .i64 0, .int .i64 0, .int .i64 0, .slice none 0 0]) ∧ VOwn w.heap.size 113 4 (VD.alloc (.cells #[.int .i64 0, .int .i64 0, .int .i64 0, .int .i64 0, .slice none 0 0] 63)) (.slice (some ⟨g, 0, none⟩) N gc) N (intF (rtF v fp fa fw lg nb B))) ∧ w.heap.size + 1 < VD.heap.size) := ⟨⟨⟨MD.out.1.1.alloc MD.out.1.1.size _, MD.out.1.2.1.alloc _, MD.out.1.2.2.alloc _, Box.new _ _ _⟩, MD.out.2.alloc _⟩, MD.out.1.2.2.lt⟩
    clear MD
    go_simp
    refine hK.out _ _ ?_ (fun hHeld => ?_)
    · exact ⟨M4x.out.1.1.2.1.cell 0, M4x.out.1.1.2.1.cell 1, M4x.out.1.1.2.1.cell 2, M4x.out.1.1.2.1.cell 3, M4x.out.1.1.2.1.cell 4, HL4.out.1 _ M4x.out.1.2, HL4.out.2.1 _ M4x.out.1.2, HL4.out.2.2.1 _ M4x.out.1.2, HL4.out.2.2.2 _ M4x.out.1.2⟩
    clear hK K hHeld
    generalize VD.alloc (.cells #[.int .i64 0, .int .i64 0, .int .i64 0, .int .i64 0, .slice none 0 0] 63) = w4 at M4x ⊢
    generalize VD.heap.size = ob at M4x ⊢
    have HOB : Hid (w.heap.size + 1 < ob) := M4x.out.2
    have HOB2 : Hid (w.heap.size ≤ ob) := by have := HOB.out; show _ ≤ _; omega
    have M4 : Hid ((Below w.heap.size w w4 ∧ Box w4 (w.heap.size) 63 #[.int .i64 fp, .int .i64 fa, .int .i64 fw, .int .i64 lg, .slice (some ⟨bb, bo, none⟩) nb bk] ∧ Box w4 (w.heap.size + 1) 63 #[.int .i64 0, .int .i64 0, .int .i64 0, .int .i64 0, .slice none 0 0] ∧ Box w4 (ob) 63 #[.int .i64 0, .int .i64 0, .int .i64 0, .int .i64 0, .slice none 0 0]) ∧ VOwn w.heap.size 113 4 w4 (.slice (some ⟨g, 0, none⟩) N gc) N (intF (rtF v fp fa fw lg nb B))) := M4x.out.1
    clear M4x
    refine rl 9 fun K hK => ?_
    go_simp
    refine (spot76 H.out.1 sp nw tt _ (H.out.2.2.1.mono M4.out.1.1 (Nat.le_refl _)) hspn htt).mono ?_
    rintro e w5 ⟨he, hb⟩
    rw [HA1.out] at he
    subst he
    have M5 : Hid ((Below w.heap.size w w5 ∧ Box w5 (w.heap.size) 63 #[.int .i64 fp, .int .i64 fa, .int .i64 fw, .int .i64 lg, .slice (some ⟨bb, bo, none⟩) nb bk] ∧ Box w5 (w.heap.size + 1) 63 #[.int .i64 0, .int .i64 0, .int .i64 0, .int .i64 0, .slice none 0 0] ∧ Box w5 (ob) 63 #[.int .i64 0, .int .i64 0, .int .i64 0, .int .i64 0, .slice none 0 0]) ∧ VOwn w.heap.size 113 4 w5 (.slice (some ⟨g, 0, none⟩) N gc) N (intF (rtF v fp fa fw lg nb B))) := ⟨⟨M4.out.1.1.trans (hb.mono M4.out.1.1.size), M4.out.1.2.1.mono hb (Nat.le_refl _), M4.out.1.2.2.1.mono hb (Nat.le_refl _), M4.out.1.2.2.2.mono hb (Nat.le_refl _)⟩, M4.out.2.mono (Nat.le_refl _) hb (Nat.le_refl _)⟩
    clear hb M4
    go_wp2_with fail
    refine hK.out _ _ ?_ (fun hHeld => ?_)
    · exact ⟨M5.out.1.2.1.cell 0, M5.out.1.2.1.cell 1, M5.out.1.2.1.cell 2, M5.out.1.2.1.cell 3, M5.out.1.2.1.cell 4, HL4.out.1 _ M5.out.2, HL4.out.2.1 _ M5.out.2, HL4.out.2.2.1 _ M5.out.2, HL4.out.2.2.2 _ M5.out.2⟩
    clear hK K
    refine tk 12 ?_
    have z0 : w5.cell? ⟨ob, 0, none⟩ = some (.int .i64 0) := M5.out.1.2.2.2.cell 0
    have z1 : w5.cell? ⟨ob, 1, none⟩ = some (.int .i64 0) := M5.out.1.2.2.2.cell 1
    have z2 : w5.cell? ⟨ob, 2, none⟩ = some (.int .i64 0) := M5.out.1.2.2.2.cell 2
    have z3 : w5.cell? ⟨ob, 3, none⟩ = some (.int .i64 0) := M5.out.1.2.2.2.cell 3
    have z4 : w5.cell? ⟨ob, 4, none⟩ = some (.slice none 0 0) := M5.out.1.2.2.2.cell 4
    have q0 := M5.out.1.2.2.2.free 0
    have q1 := M5.out.1.2.2.2.free 1
    have q2 := M5.out.1.2.2.2.free 2
    have q3 := M5.out.1.2.2.2.free 3
    have q4 := M5.out.1.2.2.2.free 4
    have e0 : w.heap.size ≠ ob := by have := HOB.out; omega
    have e1 : w.heap.size + 1 ≠ ob := by have := HOB.out; omega
    have MF : Hid ((Below w.heap.size w (((((w5.setCell ⟨ob, 0, none⟩ (.int .i64 (sp : Int))).setCell ⟨ob, 1, none⟩ (.int .i64 at1)).setCell ⟨ob, 2, none⟩ (.int .i64 nw)).setCell ⟨ob, 3, none⟩ (.int .i64 lg)).setCell ⟨ob, 4, none⟩ (.slice none 0 0)) ∧ Box (((((w5.setCell ⟨ob, 0, none⟩ (.int .i64 (sp : Int))).setCell ⟨ob, 1, none⟩ (.int .i64 at1)).setCell ⟨ob, 2, none⟩ (.int .i64 nw)).setCell ⟨ob, 3, none⟩ (.int .i64 lg)).setCell ⟨ob, 4, none⟩ (.slice none 0 0)) (w.heap.size) 63 #[.int .i64 fp, .int .i64 fa, .int .i64 fw, .int .i64 lg, .slice (some ⟨bb, bo, none⟩) nb bk] ∧ Box (((((w5.setCell ⟨ob, 0, none⟩ (.int .i64 (sp : Int))).setCell ⟨ob, 1, none⟩ (.int .i64 at1)).setCell ⟨ob, 2, none⟩ (.int .i64 nw)).setCell ⟨ob, 3, none⟩ (.int .i64 lg)).setCell ⟨ob, 4, none⟩ (.slice none 0 0)) (w.heap.size + 1) 63 #[.int .i64 0, .int .i64 0, .int .i64 0, .int .i64 0, .slice none 0 0] ∧ Box (((((w5.setCell ⟨ob, 0, none⟩ (.int .i64 (sp : Int))).setCell ⟨ob, 1, none⟩ (.int .i64 at1)).setCell ⟨ob, 2, none⟩ (.int .i64 nw)).setCell ⟨ob, 3, none⟩ (.int .i64 lg)).setCell ⟨ob, 4, none⟩ (.slice none 0 0)) (ob) 63 #[.int .i64 (sp : Int), .int .i64 at1, .int .i64 nw, .int .i64 lg, .slice none 0 0]) ∧ VOwn w.heap.size 113 4 (((((w5.setCell ⟨ob, 0, none⟩ (.int .i64 (sp : Int))).setCell ⟨ob, 1, none⟩ (.int .i64 at1)).setCell ⟨ob, 2, none⟩ (.int .i64 nw)).setCell ⟨ob, 3, none⟩ (.int .i64 lg)).setCell ⟨ob, 4, none⟩ (.slice none 0 0)) (.slice (some ⟨g, 0, none⟩) N gc) N (intF (rtF v fp fa fw lg nb B))) := ⟨⟨(((((M5.out.1.1.setCell HOB2.out _).setCell HOB2.out _).setCell HOB2.out _).setCell HOB2.out _).setCell HOB2.out _), (((((M5.out.1.2.1.other e0 _).other e0 _).other e0 _).other e0 _).other e0 _), (((((M5.out.1.2.2.1.other e1 _).other e1 _).other e1 _).other e1 _).other e1 _), by
      have h9 := (((((M5.out.1.2.2.2.set 0 (.int .i64 (sp : Int))).set 1 (.int .i64 at1)).set 2 (.int .i64 nw)).set 3 (.int .i64 lg)).set 4 (.slice none 0 0))
      exact h9⟩, (((((M5.out.2.set M5.out.1.2.2.2 (by decide) 0 _).set (M5.out.1.2.2.2.set 0 (.int .i64 (sp : Int))) (by decide) 1 _).set ((M5.out.1.2.2.2.set 0 (.int .i64 (sp : Int))).set 1 (.int .i64 at1)) (by decide) 2 _).set (((M5.out.1.2.2.2.set 0 (.int .i64 (sp : Int))).set 1 (.int .i64 at1)).set 2 (.int .i64 nw)) (by decide) 3 _).set ((((M5.out.1.2.2.2.set 0 (.int .i64 (sp : Int))).set 1 (.int .i64 at1)).set 2 (.int .i64 nw)).set 3 (.int .i64 lg)) (by decide) 4 _)⟩
    clear M5
    refine rl 14 fun K hK => ?_
    go_simp
    refine hK.out _ _ ?_ (fun hHeld => ?_)
    · exact ⟨MF.out.1.2.1.cell 0, MF.out.1.2.1.cell 1, MF.out.1.2.1.cell 2, MF.out.1.2.1.cell 3, MF.out.1.2.1.cell 4, HL4.out.1 _ MF.out.2, HL4.out.2.1 _ MF.out.2, HL4.out.2.2.1 _ MF.out.2, HL4.out.2.2.2 _ MF.out.2⟩
    clear hK K hHeld z0 z1 z2 z3 z4 q0 q1 q2 q3 q4
    refine wpAnyH_done (by kernel_rfl) ?_ _
    generalize (((((w5.setCell ⟨ob, 0, none⟩ (.int .i64 (sp : Int))).setCell ⟨ob, 1, none⟩ (.int .i64 at1)).setCell ⟨ob, 2, none⟩ (.int .i64 nw)).setCell ⟨ob, 3, none⟩ (.int .i64 lg)).setCell ⟨ob, 4, none⟩ (.slice none 0 0)) = W9 at MF ⊢
    by_cases hg1 : gc = 1
    · subst hg1
      have T0 : Hid (((Below w.heap.size w W9 ∧ Box W9 (w.heap.size) 63 #[.int .i64 fp, .int .i64 fa, .int .i64 fw, .int .i64 lg, .slice (some ⟨bb, bo, none⟩) nb bk] ∧ Box W9 (w.heap.size + 1) 63 #[.int .i64 0, .int .i64 0, .int .i64 0, .int .i64 0, .slice none 0 0] ∧ Box W9 (ob) 63 #[.int .i64 (sp : Int), .int .i64 at1, .int .i64 nw, .int .i64 lg, .slice none 0 0]) ∧ VOwn w.heap.size 113 4 W9 (.slice (some ⟨g, 0, none⟩) N 1) N (intF (rtF v fp fa fw lg nb B))) ∧ VOwn w.heap.size 79 2 W9 (.slice none 0 0) 0 (intF (bkF fp fw nb B))) := ⟨MF.out, VOwn.nil _ _ _ _ _⟩
      clear MF
      have h1N : (1 : Int) ≤ (N : Int) := by omega
      have h1N' : 1 ≤ N := by omega
      have hNc : (N : Int) ≤ (1 : Int) := by omega
      go_wp2_with fail
      go_loopw [33] (fun c wr => ∃ (k : Nat) (xa : Option Addr) (xc : Nat), k ≤ N - 1 ∧ c = .int .i64 k ∧ Hid (((Below w.heap.size w wr ∧ Box wr (w.heap.size) 63 #[.int .i64 fp, .int .i64 fa, .int .i64 fw, .int .i64 lg, .slice (some ⟨bb, bo, none⟩) nb bk] ∧ Box wr (w.heap.size + 1) 63 #[.int .i64 0, .int .i64 0, .int .i64 0, .int .i64 0, .slice none 0 0] ∧ Box wr (ob) 63 #[.int .i64 (sp : Int), .int .i64 at1, .int .i64 nw, .int .i64 lg, .slice xa k xc]) ∧ VOwn w.heap.size 113 4 wr (.slice (some ⟨g, 0, none⟩) N 1) N (intF (rtF v fp fa fw lg nb B))) ∧ VOwn w.heap.size 79 2 wr (.slice xa k xc) k (intF (bkF fp fw nb B)))) (fun c _ => N - 1 - (intOf c).toNat)
      case atStart => exact ⟨0, none, 0, Nat.zero_le _, rfl, T0⟩
      case round =>
        clear T0
        obtain ⟨k, xa, xc, hk, rfl, D⟩ := hrel
        by_cases hlt : k < N - 1
        · exact absurd hlt (by omega)
        · obtain ⟨m, HM⟩ : ∃ m, Hid (m = k ∧ m = nb - noF v fp fa fw B) := ⟨k, rfl, by have := HNN.out; omega⟩
          obtain rfl : m = k := HM.out.1
          have hge : ¬ (m : Int) < ((N - 1 : Nat) : Int) := by omega
          have hge2 : ¬ (m : Int) < (N : Int) - 1 := by omega
          have F9 : Hid ((Below w.heap.size w (((((wr.setCell ⟨w.heap.size + 1, 0, none⟩ (.int .i64 (sp : Int))).setCell ⟨w.heap.size + 1, 1, none⟩ (.int .i64 at1)).setCell ⟨w.heap.size + 1, 2, none⟩ (.int .i64 nw)).setCell ⟨w.heap.size + 1, 3, none⟩ (.int .i64 lg)).setCell ⟨w.heap.size + 1, 4, none⟩ (.slice xa m xc)) ∧ Box (((((wr.setCell ⟨w.heap.size + 1, 0, none⟩ (.int .i64 (sp : Int))).setCell ⟨w.heap.size + 1, 1, none⟩ (.int .i64 at1)).setCell ⟨w.heap.size + 1, 2, none⟩ (.int .i64 nw)).setCell ⟨w.heap.size + 1, 3, none⟩ (.int .i64 lg)).setCell ⟨w.heap.size + 1, 4, none⟩ (.slice xa m xc)) (w.heap.size + 1) 63 #[.int .i64 (sp : Int), .int .i64 at1, .int .i64 nw, .int .i64 lg, .slice xa m xc]) ∧ VOwn w.heap.size 79 2 (((((wr.setCell ⟨w.heap.size + 1, 0, none⟩ (.int .i64 (sp : Int))).setCell ⟨w.heap.size + 1, 1, none⟩ (.int .i64 at1)).setCell ⟨w.heap.size + 1, 2, none⟩ (.int .i64 nw)).setCell ⟨w.heap.size + 1, 3, none⟩ (.int .i64 lg)).setCell ⟨w.heap.size + 1, 4, none⟩ (.slice xa m xc)) (.slice xa m xc) m (intF (bkF fp fw nb B))) := ⟨⟨(((((D.out.1.1.1.setCell (Nat.le_add_right _ 1) _).setCell (Nat.le_add_right _ 1) _).setCell (Nat.le_add_right _ 1) _).setCell (Nat.le_add_right _ 1) _).setCell (Nat.le_add_right _ 1) _), by
            have h9 := (((((D.out.1.1.2.2.1.set 0 (.int .i64 (sp : Int))).set 1 (.int .i64 at1)).set 2 (.int .i64 nw)).set 3 (.int .i64 lg)).set 4 (.slice xa m xc))
            exact h9⟩, (((((D.out.2.keep (Nat.le_refl _) fun b hb => Below.heap_setCell _ _ _ b (by have h8 := D.out.2.off D.out.1.1.2.2.1 (by decide) hb; exact h8)).keep (Nat.le_refl _) fun b hb => Below.heap_setCell _ _ _ b (by have h8 := D.out.2.off D.out.1.1.2.2.1 (by decide) hb; exact h8)).keep (Nat.le_refl _) fun b hb => Below.heap_setCell _ _ _ b (by have h8 := D.out.2.off D.out.1.1.2.2.1 (by decide) hb; exact h8)).keep (Nat.le_refl _) fun b hb => Below.heap_setCell _ _ _ b (by have h8 := D.out.2.off D.out.1.1.2.2.1 (by decide) hb; exact h8)).keep (Nat.le_refl _) fun b hb => Below.heap_setCell _ _ _ b (by have h8 := D.out.2.off D.out.1.1.2.2.1 (by decide) hb; exact h8))⟩
          have x0 : wr.cell? ⟨ob, 0, none⟩ = some (.int .i64 (sp : Int)) := D.out.1.1.2.2.2.cell 0
          have x1 : wr.cell? ⟨ob, 1, none⟩ = some (.int .i64 at1) := D.out.1.1.2.2.2.cell 1
          have x2 : wr.cell? ⟨ob, 2, none⟩ = some (.int .i64 nw) := D.out.1.1.2.2.2.cell 2
          have x3 : wr.cell? ⟨ob, 3, none⟩ = some (.int .i64 lg) := D.out.1.1.2.2.2.cell 3
          have x4 : wr.cell? ⟨ob, 4, none⟩ = some (.slice xa m xc) := D.out.1.1.2.2.2.cell 4
          have z0 : wr.cell? ⟨w.heap.size + 1, 0, none⟩ = some (.int .i64 0) := D.out.1.1.2.2.1.cell 0
          have z1 : wr.cell? ⟨w.heap.size + 1, 1, none⟩ = some (.int .i64 0) := D.out.1.1.2.2.1.cell 1
          have z2 : wr.cell? ⟨w.heap.size + 1, 2, none⟩ = some (.int .i64 0) := D.out.1.1.2.2.1.cell 2
          have z3 : wr.cell? ⟨w.heap.size + 1, 3, none⟩ = some (.int .i64 0) := D.out.1.1.2.2.1.cell 3
          have z4 : wr.cell? ⟨w.heap.size + 1, 4, none⟩ = some (.slice none 0 0) := D.out.1.1.2.2.1.cell 4
          have q0 := D.out.1.1.2.2.1.free 0
          have q1 := D.out.1.1.2.2.1.free 1
          have q2 := D.out.1.1.2.2.1.free 2
          have q3 := D.out.1.1.2.2.1.free 3
          have q4 := D.out.1.1.2.2.1.free 4
          clear D
          go_wp2_with fail
          clear x0 x1 x2 x3 x4 z0 z1 z2 z3 z4 q0 q1 q2 q3 q4
          generalize (((((wr.setCell ⟨w.heap.size + 1, 0, none⟩ (.int .i64 (sp : Int))).setCell ⟨w.heap.size + 1, 1, none⟩ (.int .i64 at1)).setCell ⟨w.heap.size + 1, 2, none⟩ (.int .i64 nw)).setCell ⟨w.heap.size + 1, 3, none⟩ (.int .i64 lg)).setCell ⟨w.heap.size + 1, 4, none⟩ (.slice xa m xc)) = W8 at F9 ⊢
          have z0 : W8.cell? ⟨w.heap.size + 1, 0, none⟩ = some (.int .i64 (sp : Int)) := F9.out.1.2.cell 0
          have z1 : W8.cell? ⟨w.heap.size + 1, 1, none⟩ = some (.int .i64 at1) := F9.out.1.2.cell 1
          have z2 : W8.cell? ⟨w.heap.size + 1, 2, none⟩ = some (.int .i64 nw) := F9.out.1.2.cell 2
          have z3 : W8.cell? ⟨w.heap.size + 1, 3, none⟩ = some (.int .i64 lg) := F9.out.1.2.cell 3
          have z4 : W8.cell? ⟨w.heap.size + 1, 4, none⟩ = some (.slice xa m xc) := F9.out.1.2.cell 4
          exact bodyPost_ret (v := .agg #[.int .i64 (sp : Int), .int .i64 at1, .int .i64 nw, .int .i64 lg, .slice xa m xc]) (by simp [results, Tryz.results42, go_sem, z0, z1, z2, z3, z4]) rfl ⟨xa, xc, by rw [HSP.out, HNW.out, HAT.out, ← HM.out.2], by rw [← HM.out.2]; exact F9.out.2, F9.out.1.1⟩
    · have hg2 : 1 < gc := by omega
      have T0 : Hid (((Below w.heap.size w W9 ∧ Box W9 (w.heap.size) 63 #[.int .i64 fp, .int .i64 fa, .int .i64 fw, .int .i64 lg, .slice (some ⟨bb, bo, none⟩) nb bk] ∧ Box W9 (w.heap.size + 1) 63 #[.int .i64 0, .int .i64 0, .int .i64 0, .int .i64 0, .slice none 0 0] ∧ Box W9 (ob) 63 #[.int .i64 (sp : Int), .int .i64 at1, .int .i64 nw, .int .i64 lg, .slice none 0 0]) ∧ VOwn w.heap.size 113 4 W9 (.slice (some ⟨g, 0, none⟩) N gc) N (intF (rtF v fp fa fw lg nb B))) ∧ VOwn w.heap.size 79 2 W9 (.slice none 0 0) 0 (intF (bkF fp fw nb B))) := ⟨MF.out, VOwn.nil _ _ _ _ _⟩
      clear MF
      have h1N : (1 : Int) ≤ (N : Int) := by omega
      have h1N' : 1 ≤ N := by omega
      have hNc : (N : Int) ≤ (gc : Int) := by omega
      go_wp2_with fail
      go_loopw [33] (fun c wr => ∃ (k : Nat) (xa : Option Addr) (xc : Nat), k ≤ N - 1 ∧ c = .int .i64 k ∧ Hid (((Below w.heap.size w wr ∧ Box wr (w.heap.size) 63 #[.int .i64 fp, .int .i64 fa, .int .i64 fw, .int .i64 lg, .slice (some ⟨bb, bo, none⟩) nb bk] ∧ Box wr (w.heap.size + 1) 63 #[.int .i64 0, .int .i64 0, .int .i64 0, .int .i64 0, .slice none 0 0] ∧ Box wr (ob) 63 #[.int .i64 (sp : Int), .int .i64 at1, .int .i64 nw, .int .i64 lg, .slice xa k xc]) ∧ VOwn w.heap.size 113 4 wr (.slice (some ⟨g, 0, none⟩) N gc) N (intF (rtF v fp fa fw lg nb B))) ∧ VOwn w.heap.size 79 2 wr (.slice xa k xc) k (intF (bkF fp fw nb B)))) (fun c _ => N - 1 - (intOf c).toNat)
      case atStart => exact ⟨0, none, 0, Nat.zero_le _, rfl, T0⟩
      case round =>
        clear T0
        obtain ⟨k, xa, xc, hk, rfl, D⟩ := hrel
        by_cases hlt : k < N - 1
        · have hk0 : (0 : Int) ≤ (k : Int) := by omega
          have hkn : (k : Int) < ((N - 1 : Nat) : Int) := by omega
          have hkn2 : (k : Int) < (N : Int) - 1 := by omega
          obtain ⟨s0, HS0⟩ : ∃ q, Hid (rtF v fp fa fw lg nb B (k + 1) 0 = q) := ⟨_, rfl⟩
          obtain ⟨s1, HS1⟩ : ∃ q, Hid (rtF v fp fa fw lg nb B (k + 1) 1 = q) := ⟨_, rfl⟩
          obtain ⟨s2, HS2⟩ : ∃ q, Hid (rtF v fp fa fw lg nb B (k + 1) 2 = q) := ⟨_, rfl⟩
          obtain ⟨s3, HS3⟩ : ∃ q, Hid (rtF v fp fa fw lg nb B (k + 1) 3 = q) := ⟨_, rfl⟩
          have d0 : wr.cell? ⟨g, 4 + k * 4, none⟩ = some (.int .i64 s0) := by
            have h9 := D.out.1.2.cell (i := k + 1) (j := 0) (by omega) (by omega)
            rw [← HS0.out, show 4 + k * 4 = (k + 1) * 4 + 0 by omega]
            exact h9
          have d1 : wr.cell? ⟨g, 4 + k * 4 + 1, none⟩ = some (.int .i64 s1) := by
            have h9 := D.out.1.2.cell (i := k + 1) (j := 1) (by omega) (by omega)
            rw [← HS1.out, show 4 + k * 4 + 1 = (k + 1) * 4 + 1 by omega]
            exact h9
          have d2 : wr.cell? ⟨g, 4 + k * 4 + 2, none⟩ = some (.int .i64 s2) := by
            have h9 := D.out.1.2.cell (i := k + 1) (j := 2) (by omega) (by omega)
            rw [← HS2.out, show 4 + k * 4 + 2 = (k + 1) * 4 + 2 by omega]
            exact h9
          have d3 : wr.cell? ⟨g, 4 + k * 4 + 3, none⟩ = some (.int .i64 s3) := by
            have h9 := D.out.1.2.cell (i := k + 1) (j := 3) (by omega) (by omega)
            rw [← HS3.out, show 4 + k * 4 + 3 = (k + 1) * 4 + 3 by omega]
            exact h9
          have D1 : Hid ((((Below w.heap.size w (wr.alloc (.cells #[.int .i64 s0, .int .i64 s1, .int .i64 s2, .int .i64 s3] 113)) ∧ Box (wr.alloc (.cells #[.int .i64 s0, .int .i64 s1, .int .i64 s2, .int .i64 s3] 113)) (w.heap.size) 63 #[.int .i64 fp, .int .i64 fa, .int .i64 fw, .int .i64 lg, .slice (some ⟨bb, bo, none⟩) nb bk] ∧ Box (wr.alloc (.cells #[.int .i64 s0, .int .i64 s1, .int .i64 s2, .int .i64 s3] 113)) (w.heap.size + 1) 63 #[.int .i64 0, .int .i64 0, .int .i64 0, .int .i64 0, .slice none 0 0] ∧ Box (wr.alloc (.cells #[.int .i64 s0, .int .i64 s1, .int .i64 s2, .int .i64 s3] 113)) (ob) 63 #[.int .i64 (sp : Int), .int .i64 at1, .int .i64 nw, .int .i64 lg, .slice xa k xc]) ∧ VOwn w.heap.size 113 4 (wr.alloc (.cells #[.int .i64 s0, .int .i64 s1, .int .i64 s2, .int .i64 s3] 113)) (.slice (some ⟨g, 0, none⟩) N gc) N (intF (rtF v fp fa fw lg nb B))) ∧ VOwn w.heap.size 79 2 (wr.alloc (.cells #[.int .i64 s0, .int .i64 s1, .int .i64 s2, .int .i64 s3] 113)) (.slice xa k xc) k (intF (bkF fp fw nb B))) ∧ Box (wr.alloc (.cells #[.int .i64 s0, .int .i64 s1, .int .i64 s2, .int .i64 s3] 113)) wr.heap.size 113 #[.int .i64 s0, .int .i64 s1, .int .i64 s2, .int .i64 s3]) := ⟨⟨⟨⟨D.out.1.1.1.alloc D.out.1.1.1.size _, D.out.1.1.2.1.alloc _, D.out.1.1.2.2.1.alloc _, D.out.1.1.2.2.2.alloc _⟩, D.out.1.2.alloc _⟩, D.out.2.alloc _⟩, Box.new _ _ _⟩
          clear D
          go_upto_region 7 with fail
          clear d0 d1 d2 d3
          generalize wr.alloc (.cells #[.int .i64 s0, .int .i64 s1, .int .i64 s2, .int .i64 s3] 113) = V5 at D1 ⊢
          generalize wr.heap.size = sq at D1 ⊢
          have y0 : V5.cell? ⟨sq, 0, none⟩ = some (.int .i64 s0) := D1.out.2.cell 0
          have y1 : V5.cell? ⟨sq, 1, none⟩ = some (.int .i64 s1) := D1.out.2.cell 1
          have o4 : V5.cell? ⟨ob, 4, none⟩ = some (.slice xa k xc) := D1.out.1.1.1.2.2.2.cell 4
          have HVS : Hid ((#[.int .i64 s0, .int .i64 s1] : Array Value).toList = (List.range 2).map (intF (bkF fp fw nb B) k)) := by
            have hb2 := rt_back H.out.2.1 (i := k) (by have := HNN.out; omega)
            have e0 : bkF fp fw nb B k 0 = s0 := hb2.1.symm.trans HS0.out
            have e1 : bkF fp fw nb B k 1 = s1 := hb2.2.symm.trans HS1.out
            show _ = _
            simp [List.range_succ, intF, e0, e1]
          have hsz : w.heap.size ≤ (V5.alloc (.cells #[.int .i64 s0, .int .i64 s1] 79)).heap.size := (D1.out.1.1.1.1.alloc D1.out.1.1.1.1.size _).size
          go_wp2_with (at_builtin; go_must (refine wpList_vapp _ rfl _ _ 41 rfl w.heap.size 79 i0 _ 2 16 Tryz.underlying41 hi0 hz0 hs0 hb0 rfl (by decide) (.slice xa k xc) k (intF (bkF fp fw nb B)) rfl (D1.out.1.2.alloc _) (fun _ _ => rfl) V5.heap.size 1 #[.int .i64 s0, .int .i64 s1] rfl (Box.new _ _ _) HVS.out (by simp only [maxLen]; omega) (by omega) hsz (Halt.mk ?_)))
          intro v2 w6 ho2 hg2
          have HAp := app2 D1.out.1.1.1.1 D1.out.1.1.2 D1.out.1.2 ho2 hg2
          obtain ⟨a2, c2, rfl⟩ := ho2.val
          have E6 : Hid ((Below w.heap.size w w6 ∧ Box w6 (w.heap.size) 63 #[.int .i64 fp, .int .i64 fa, .int .i64 fw, .int .i64 lg, .slice (some ⟨bb, bo, none⟩) nb bk] ∧ Box w6 (w.heap.size + 1) 63 #[.int .i64 0, .int .i64 0, .int .i64 0, .int .i64 0, .slice none 0 0] ∧ Box w6 (ob) 63 #[.int .i64 (sp : Int), .int .i64 at1, .int .i64 nw, .int .i64 lg, .slice xa k xc]) ∧ VOwn w.heap.size 113 4 w6 (.slice (some ⟨g, 0, none⟩) N gc) N (intF (rtF v fp fa fw lg nb B)) ∧ VOwn w.heap.size 79 2 w6 (.slice a2 (k + 1) c2) (k + 1) (intF (bkF fp fw nb B))) := ⟨⟨HAp.1, HAp.2.2.2 _ _ _ (by decide) D1.out.1.1.1.2.1, HAp.2.2.2 _ _ _ (by decide) D1.out.1.1.1.2.2.1, HAp.2.2.2 _ _ _ (by decide) D1.out.1.1.1.2.2.2⟩, HAp.2.1, HAp.2.2.1⟩
          clear HAp ho2 hg2 hsz D1 y0 y1 o4
          have o4 : w6.cell? ⟨ob, 4, none⟩ = some (.slice xa k xc) := E6.out.1.2.2.2.cell 4
          have q4 := E6.out.1.2.2.2.free 4
          have E7 : Hid (((Below w.heap.size w (w6.setCell ⟨ob, 4, none⟩ (.slice a2 (k + 1) c2)) ∧ Box (w6.setCell ⟨ob, 4, none⟩ (.slice a2 (k + 1) c2)) (w.heap.size) 63 #[.int .i64 fp, .int .i64 fa, .int .i64 fw, .int .i64 lg, .slice (some ⟨bb, bo, none⟩) nb bk] ∧ Box (w6.setCell ⟨ob, 4, none⟩ (.slice a2 (k + 1) c2)) (w.heap.size + 1) 63 #[.int .i64 0, .int .i64 0, .int .i64 0, .int .i64 0, .slice none 0 0] ∧ Box (w6.setCell ⟨ob, 4, none⟩ (.slice a2 (k + 1) c2)) (ob) 63 #[.int .i64 (sp : Int), .int .i64 at1, .int .i64 nw, .int .i64 lg, .slice a2 (k + 1) c2]) ∧ VOwn w.heap.size 113 4 (w6.setCell ⟨ob, 4, none⟩ (.slice a2 (k + 1) c2)) (.slice (some ⟨g, 0, none⟩) N gc) N (intF (rtF v fp fa fw lg nb B))) ∧ VOwn w.heap.size 79 2 (w6.setCell ⟨ob, 4, none⟩ (.slice a2 (k + 1) c2)) (.slice a2 (k + 1) c2) (k + 1) (intF (bkF fp fw nb B))) := ⟨⟨⟨E6.out.1.1.setCell HOB2.out _, E6.out.1.2.1.other e0 _, E6.out.1.2.2.1.other e1 _, by
            have h9 := E6.out.1.2.2.2.set 4 (.slice a2 (k + 1) c2)
            exact h9⟩, E6.out.2.1.set E6.out.1.2.2.2 (by decide) 4 _⟩, E6.out.2.2.set E6.out.1.2.2.2 (by decide) 4 _⟩
          clear E6
          go_wp2_with fail
          clear o4 q4
          go_roundw
          case rel => exact ⟨k + 1, a2, c2, by omega, by go_num, E7⟩
          case measure => simp [intOf]; omega
        · obtain ⟨m, HM⟩ : ∃ m, Hid (m = k ∧ m = nb - noF v fp fa fw B) := ⟨k, rfl, by have := HNN.out; omega⟩
          obtain rfl : m = k := HM.out.1
          have hge : ¬ (m : Int) < ((N - 1 : Nat) : Int) := by omega
          have hge2 : ¬ (m : Int) < (N : Int) - 1 := by omega
          have F9 : Hid ((Below w.heap.size w (((((wr.setCell ⟨w.heap.size + 1, 0, none⟩ (.int .i64 (sp : Int))).setCell ⟨w.heap.size + 1, 1, none⟩ (.int .i64 at1)).setCell ⟨w.heap.size + 1, 2, none⟩ (.int .i64 nw)).setCell ⟨w.heap.size + 1, 3, none⟩ (.int .i64 lg)).setCell ⟨w.heap.size + 1, 4, none⟩ (.slice xa m xc)) ∧ Box (((((wr.setCell ⟨w.heap.size + 1, 0, none⟩ (.int .i64 (sp : Int))).setCell ⟨w.heap.size + 1, 1, none⟩ (.int .i64 at1)).setCell ⟨w.heap.size + 1, 2, none⟩ (.int .i64 nw)).setCell ⟨w.heap.size + 1, 3, none⟩ (.int .i64 lg)).setCell ⟨w.heap.size + 1, 4, none⟩ (.slice xa m xc)) (w.heap.size + 1) 63 #[.int .i64 (sp : Int), .int .i64 at1, .int .i64 nw, .int .i64 lg, .slice xa m xc]) ∧ VOwn w.heap.size 79 2 (((((wr.setCell ⟨w.heap.size + 1, 0, none⟩ (.int .i64 (sp : Int))).setCell ⟨w.heap.size + 1, 1, none⟩ (.int .i64 at1)).setCell ⟨w.heap.size + 1, 2, none⟩ (.int .i64 nw)).setCell ⟨w.heap.size + 1, 3, none⟩ (.int .i64 lg)).setCell ⟨w.heap.size + 1, 4, none⟩ (.slice xa m xc)) (.slice xa m xc) m (intF (bkF fp fw nb B))) := ⟨⟨(((((D.out.1.1.1.setCell (Nat.le_add_right _ 1) _).setCell (Nat.le_add_right _ 1) _).setCell (Nat.le_add_right _ 1) _).setCell (Nat.le_add_right _ 1) _).setCell (Nat.le_add_right _ 1) _), by
            have h9 := (((((D.out.1.1.2.2.1.set 0 (.int .i64 (sp : Int))).set 1 (.int .i64 at1)).set 2 (.int .i64 nw)).set 3 (.int .i64 lg)).set 4 (.slice xa m xc))
            exact h9⟩, (((((D.out.2.keep (Nat.le_refl _) fun b hb => Below.heap_setCell _ _ _ b (by have h8 := D.out.2.off D.out.1.1.2.2.1 (by decide) hb; exact h8)).keep (Nat.le_refl _) fun b hb => Below.heap_setCell _ _ _ b (by have h8 := D.out.2.off D.out.1.1.2.2.1 (by decide) hb; exact h8)).keep (Nat.le_refl _) fun b hb => Below.heap_setCell _ _ _ b (by have h8 := D.out.2.off D.out.1.1.2.2.1 (by decide) hb; exact h8)).keep (Nat.le_refl _) fun b hb => Below.heap_setCell _ _ _ b (by have h8 := D.out.2.off D.out.1.1.2.2.1 (by decide) hb; exact h8)).keep (Nat.le_refl _) fun b hb => Below.heap_setCell _ _ _ b (by have h8 := D.out.2.off D.out.1.1.2.2.1 (by decide) hb; exact h8))⟩
          have x0 : wr.cell? ⟨ob, 0, none⟩ = some (.int .i64 (sp : Int)) := D.out.1.1.2.2.2.cell 0
          have x1 : wr.cell? ⟨ob, 1, none⟩ = some (.int .i64 at1) := D.out.1.1.2.2.2.cell 1
          have x2 : wr.cell? ⟨ob, 2, none⟩ = some (.int .i64 nw) := D.out.1.1.2.2.2.cell 2
          have x3 : wr.cell? ⟨ob, 3, none⟩ = some (.int .i64 lg) := D.out.1.1.2.2.2.cell 3
          have x4 : wr.cell? ⟨ob, 4, none⟩ = some (.slice xa m xc) := D.out.1.1.2.2.2.cell 4
          have z0 : wr.cell? ⟨w.heap.size + 1, 0, none⟩ = some (.int .i64 0) := D.out.1.1.2.2.1.cell 0
          have z1 : wr.cell? ⟨w.heap.size + 1, 1, none⟩ = some (.int .i64 0) := D.out.1.1.2.2.1.cell 1
          have z2 : wr.cell? ⟨w.heap.size + 1, 2, none⟩ = some (.int .i64 0) := D.out.1.1.2.2.1.cell 2
          have z3 : wr.cell? ⟨w.heap.size + 1, 3, none⟩ = some (.int .i64 0) := D.out.1.1.2.2.1.cell 3
          have z4 : wr.cell? ⟨w.heap.size + 1, 4, none⟩ = some (.slice none 0 0) := D.out.1.1.2.2.1.cell 4
          have q0 := D.out.1.1.2.2.1.free 0
          have q1 := D.out.1.1.2.2.1.free 1
          have q2 := D.out.1.1.2.2.1.free 2
          have q3 := D.out.1.1.2.2.1.free 3
          have q4 := D.out.1.1.2.2.1.free 4
          clear D
          go_wp2_with fail
          clear x0 x1 x2 x3 x4 z0 z1 z2 z3 z4 q0 q1 q2 q3 q4
          generalize (((((wr.setCell ⟨w.heap.size + 1, 0, none⟩ (.int .i64 (sp : Int))).setCell ⟨w.heap.size + 1, 1, none⟩ (.int .i64 at1)).setCell ⟨w.heap.size + 1, 2, none⟩ (.int .i64 nw)).setCell ⟨w.heap.size + 1, 3, none⟩ (.int .i64 lg)).setCell ⟨w.heap.size + 1, 4, none⟩ (.slice xa m xc)) = W8 at F9 ⊢
          have z0 : W8.cell? ⟨w.heap.size + 1, 0, none⟩ = some (.int .i64 (sp : Int)) := F9.out.1.2.cell 0
          have z1 : W8.cell? ⟨w.heap.size + 1, 1, none⟩ = some (.int .i64 at1) := F9.out.1.2.cell 1
          have z2 : W8.cell? ⟨w.heap.size + 1, 2, none⟩ = some (.int .i64 nw) := F9.out.1.2.cell 2
          have z3 : W8.cell? ⟨w.heap.size + 1, 3, none⟩ = some (.int .i64 lg) := F9.out.1.2.cell 3
          have z4 : W8.cell? ⟨w.heap.size + 1, 4, none⟩ = some (.slice xa m xc) := F9.out.1.2.cell 4
          exact bodyPost_ret (v := .agg #[.int .i64 (sp : Int), .int .i64 at1, .int .i64 nw, .int .i64 lg, .slice xa m xc]) (by simp [results, Tryz.results42, go_sem, z0, z1, z2, z3, z4]) rfl ⟨xa, xc, by rw [HSP.out, HNW.out, HAT.out, ← HM.out.2], by rw [← HM.out.2]; exact F9.out.2, F9.out.1.1⟩

end Go.Proofs.YtoennemahlakeaaGreat
