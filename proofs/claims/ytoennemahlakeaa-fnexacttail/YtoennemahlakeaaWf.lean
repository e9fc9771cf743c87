import Derived.Test.YtoennemahlakeaaWe
namespace Go.Proofs.Ytoennemahlakeaa
open Go.RowKit Go.Lib

theorem Fr.cells {X : Nat → Prop} {w w' : World} {b : Nat} (h : Fr X w w') (hb : X b) (o : Nat) (v : Value) : Fr X w (w'.setCell ⟨b, o, none⟩ v) := ⟨h.os, h.tape, h.output, by rw [size_setc]; exact h.size, fun k hk hn => (Below.heap_setCell w' _ v k fun e => hn (by rw [e]; exact hb)).trans (h.block k hk hn)⟩
/-- a row that is turned from its two ends inward -/
def rvF (n : Nat) (F : Nat → Nat → Int) (i r c : Nat) : Int := if r < i ∨ n - 1 - r < i then F (n - 1 - r) c else F r c
/-- one row of it written over by another one's -/
def swF1 (F : Nat → Nat → Int) (i j r c : Nat) : Int := if r = i then F j c else F r c
theorem swF1_ne {F : Nat → Nat → Int} {i j r c : Nat} (h : r ≠ i) : swF1 F i j r c = F r c := if_neg h
theorem row4 {M g c n : Nat} {W : World} {F F2 : Nat → Nat → Int} {i : Nat} {x0 x1 x2 x3 : Int} (hi : i < n) (h : VOwn M 124 4 W (.slice (some ⟨g, 0, none⟩) n c) n (intF F)) (h0 : F2 i 0 = x0) (h1 : F2 i 1 = x1) (h2 : F2 i 2 = x2) (h3 : F2 i 3 = x3) (hne : ∀ r c, r ≠ i → F2 r c = F r c) :
    VOwn M 124 4 ((((W.setCell ⟨g, i * 4, none⟩ (.int .i64 x0)).setCell ⟨g, i * 4 + 1, none⟩ (.int .i64 x1)).setCell ⟨g, i * 4 + 2, none⟩ (.int .i64 x2)).setCell ⟨g, i * 4 + 3, none⟩ (.int .i64 x3)) (.slice (some ⟨g, 0, none⟩) n c) n (intF F2) := by
  have h9 := (((h.store (i := i) (j := 0) hi (by omega) (.int .i64 x0)).store (i := i) (j := 1) hi (by omega) (.int .i64 x1)).store (i := i) (j := 2) hi (by omega) (.int .i64 x2)).store (i := i) (j := 3) hi (by omega) (.int .i64 x3)
  refine h9.congr fun r _ k hk => ?_
  unfold upd
  by_cases e : r = i
  · subst e
    rcases (show k = 0 ∨ k = 1 ∨ k = 2 ∨ k = 3 by omega) with rfl | rfl | rfl | rfl
    · simp [intF, h0]
    · simp [intF, h1]
    · simp [intF, h2]
    · simp [intF, h3]
  · simp [intF, e, hne r k e]
theorem fr4 {w W : World} {g : Nat} (h : Fr (fun b => b = g) w W) (o0 o1 o2 o3 : Nat) (x0 x1 x2 x3 : Value) : Fr (fun b => b = g) w ((((W.setCell ⟨g, o0, none⟩ x0).setCell ⟨g, o1, none⟩ x1).setCell ⟨g, o2, none⟩ x2).setCell ⟨g, o3, none⟩ x3) :=
  (((h.cells rfl _ _).cells rfl _ _).cells rfl _ _).cells rfl _ _
theorem swap2 {M g c n : Nat} {w W : World} {F : Nat → Nat → Int} {i jn : Nat} (hij : i < jn) (hn : i + jn + 1 = n) (h : VOwn M 124 4 W (.slice (some ⟨g, 0, none⟩) n c) n (intF (swF1 (rvF n F i) i jn))) (hf : Fr (fun b => b = g) w W) :
    VOwn M 124 4 ((((W.setCell ⟨g, jn * 4, none⟩ (.int .i64 (rvF n F i i 0))).setCell ⟨g, jn * 4 + 1, none⟩ (.int .i64 (rvF n F i i 1))).setCell ⟨g, jn * 4 + 2, none⟩ (.int .i64 (rvF n F i i 2))).setCell ⟨g, jn * 4 + 3, none⟩ (.int .i64 (rvF n F i i 3))) (.slice (some ⟨g, 0, none⟩) n c) n (intF (rvF n F (i + 1))) ∧ Fr (fun b => b = g) w ((((W.setCell ⟨g, jn * 4, none⟩ (.int .i64 (rvF n F i i 0))).setCell ⟨g, jn * 4 + 1, none⟩ (.int .i64 (rvF n F i i 1))).setCell ⟨g, jn * 4 + 2, none⟩ (.int .i64 (rvF n F i i 2))).setCell ⟨g, jn * 4 + 3, none⟩ (.int .i64 (rvF n F i i 3))) := by
  have e1 : ∀ k, rvF n F i i k = F i k := fun k => by unfold rvF; rw [if_neg (by omega)]
  have e2 : ∀ k, rvF n F i jn k = F jn k := fun k => by unfold rvF; rw [if_neg (by omega)]
  have e3 : ∀ k, rvF n F (i + 1) i k = F jn k := fun k => by unfold rvF; rw [if_pos (by omega), show n - 1 - i = jn by omega]
  have e4 : ∀ k, rvF n F (i + 1) jn k = F i k := fun k => by unfold rvF; rw [if_pos (by omega), show n - 1 - jn = i by omega]
  refine ⟨?_, fr4 hf _ _ _ _ _ _ _ _⟩
  have h5 : VOwn M 124 4 W (.slice (some ⟨g, 0, none⟩) n c) n (intF (fun r k => if r = i then F jn k else if r = jn then F jn k else rvF n F (i + 1) r k)) := h.congr fun r hr k _ => by
    show Value.int .i64 _ = Value.int .i64 _
    congr 1
    show swF1 (rvF n F i) i jn r k = if r = i then F jn k else if r = jn then F jn k else rvF n F (i + 1) r k
    unfold swF1
    by_cases a : r = i
    · rw [if_pos a, if_pos a, e2]
    · rw [if_neg a, if_neg a]
      by_cases b : r = jn
      · rw [if_pos b, b, e2]
      · rw [if_neg b]
        unfold rvF
        by_cases d : r < i ∨ n - 1 - r < i
        · rw [if_pos d, if_pos (by omega)]
        · rw [if_neg d, if_neg (by omega)]
  refine row4 (i := jn) (by omega) h5 ?_ ?_ ?_ ?_ ?_
  · rw [e4, e1]
  · rw [e4, e1]
  · rw [e4, e1]
  · rw [e4, e1]
  · intro r k hr
    show rvF n F (i + 1) r k = if r = i then F jn k else if r = jn then F jn k else rvF n F (i + 1) r k
    by_cases a : r = i
    · rw [if_pos a, a, e3]
    · rw [if_neg a, if_neg hr]
set_option maxRecDepth 100000 in
set_option maxHeartbeats 8000000 in
theorem reverse75 (M g c n : Nat) (F : Nat → Nat → Int) (w : World) (hn0 : 0 < n) (hn : n ≤ 1000) (h : VOwn M 124 4 w (.slice (some ⟨g, 0, none⟩) n c) n (intF F)) :
    Calls Try.prog 75 #[.slice (some ⟨g, 0, none⟩) n c] w fun e w' => e = .returned (.tuple #[]) ∧ VOwn M 124 4 w' (.slice (some ⟨g, 0, none⟩) n c) n (intF (fun i j => F (n - 1 - i) j)) ∧ Fr (fun b => b = g) w w' := by
  have H : Hid (VOwn M 124 4 w (.slice (some ⟨g, 0, none⟩) n c) n (intF (rvF n F 0))) := h.congr fun r hr k _ => by
    show Value.int .i64 (F r k) = Value.int .i64 (rvF n F 0 r k)
    rw [rvF, if_neg (by omega)]
  clear h
  go_enter Try.func75, Try.ntmps75
  go_wp2_with fail
  go_loopw [2, 3] (fun u l wr => ∃ (i jn : Nat), i + jn + 1 = n ∧ u = .int .i64 (i : Int) ∧ l = .int .i64 (jn : Int) ∧ Hid (VOwn M 124 4 wr (.slice (some ⟨g, 0, none⟩) n c) n (intF (rvF n F i)) ∧ Fr (fun b => b = g) w wr)) (fun u _ _ => n - (intOf u).toNat)
  case atStart => exact ⟨0, n - 1, by omega, rfl, by rw [show (((n - 1 : Nat)) : Int) = (n : Int) - 1 by omega], ⟨H.out, Fr.refl _ _⟩⟩
  case round =>
    obtain ⟨i, jn, hij, rfl, rfl, D⟩ := hrel
    by_cases hlt : i < jn
    · have hlt' : (i : Int) < (jn : Int) := by omega
      have hi0 : (0 : Int) ≤ (i : Int) := by omega
      have hj0 : (0 : Int) ≤ (jn : Int) := by omega
      have hin : (i : Int) < (n : Int) := by omega
      have hjn : (jn : Int) < (n : Int) := by omega
      have c0 : wr.cell? ⟨g, i * 4, none⟩ = some (.int .i64 (rvF n F i i 0)) := D.out.1.cell (i := i) (j := 0) (by omega) (by omega)
      have c1 : wr.cell? ⟨g, i * 4 + 1, none⟩ = some (.int .i64 (rvF n F i i 1)) := D.out.1.cell (i := i) (j := 1) (by omega) (by omega)
      have c2 : wr.cell? ⟨g, i * 4 + 2, none⟩ = some (.int .i64 (rvF n F i i 2)) := D.out.1.cell (i := i) (j := 2) (by omega) (by omega)
      have c3 : wr.cell? ⟨g, i * 4 + 3, none⟩ = some (.int .i64 (rvF n F i i 3)) := D.out.1.cell (i := i) (j := 3) (by omega) (by omega)
      have d0 : wr.cell? ⟨g, jn * 4, none⟩ = some (.int .i64 (rvF n F i jn 0)) := D.out.1.cell (i := jn) (j := 0) (by omega) (by omega)
      have d1 : wr.cell? ⟨g, jn * 4 + 1, none⟩ = some (.int .i64 (rvF n F i jn 1)) := D.out.1.cell (i := jn) (j := 1) (by omega) (by omega)
      have d2 : wr.cell? ⟨g, jn * 4 + 2, none⟩ = some (.int .i64 (rvF n F i jn 2)) := D.out.1.cell (i := jn) (j := 2) (by omega) (by omega)
      have d3 : wr.cell? ⟨g, jn * 4 + 3, none⟩ = some (.int .i64 (rvF n F i jn 3)) := D.out.1.cell (i := jn) (j := 3) (by omega) (by omega)
      have q0 := D.out.1.free (i * 4)
      have q1 := D.out.1.free (i * 4 + 1)
      have q2 := D.out.1.free (i * 4 + 2)
      have q3 := D.out.1.free (i * 4 + 3)
      have HM1 : Hid (VOwn M 124 4 ((((wr.setCell ⟨g, i * 4, none⟩ (.int .i64 (rvF n F i jn 0))).setCell ⟨g, i * 4 + 1, none⟩ (.int .i64 (rvF n F i jn 1))).setCell ⟨g, i * 4 + 2, none⟩ (.int .i64 (rvF n F i jn 2))).setCell ⟨g, i * 4 + 3, none⟩ (.int .i64 (rvF n F i jn 3))).drew (.slice (some ⟨g, 0, none⟩) n c) n (intF (swF1 (rvF n F i) i jn)) ∧ Fr (fun b => b = g) w ((((wr.setCell ⟨g, i * 4, none⟩ (.int .i64 (rvF n F i jn 0))).setCell ⟨g, i * 4 + 1, none⟩ (.int .i64 (rvF n F i jn 1))).setCell ⟨g, i * 4 + 2, none⟩ (.int .i64 (rvF n F i jn 2))).setCell ⟨g, i * 4 + 3, none⟩ (.int .i64 (rvF n F i jn 3))).drew) := ⟨row4 (i := i) (F2 := swF1 (rvF n F i) i jn) (by omega) D.out.1 (if_pos rfl) (if_pos rfl) (if_pos rfl) (if_pos rfl) (fun r k hr => if_neg hr), (fr4 D.out.2 _ _ _ _ _ _ _ _).drew⟩
      clear D
      go_wp2_with fail
      refine wp_region_held_drew (S := fun _ => True) (by kernel_rfl) trivial (fun _ => ?_)
      refine tk 0 ?_
      refine tk 1 ?_
      refine tk 2 ?_
      refine tk 3 ?_
      refine tk 4 ?_
      refine tk 5 ?_
      refine tk 6 ?_
      refine tk 8 ?_
      refine tk 9 ?_
      refine tk 10 ?_
      refine ready2_lit (i := 7) (j := 11) (by kernel_rfl) rfl rfl (fun K hK => ?_) (fun K hK => ?_)
      · go_simp
        refine hK.out _ _ trivial (fun _ => ?_)
        clear hK K
        refine rl 11 fun K hK => ?_
        go_simp
        refine hK.out _ _ trivial (fun _ => ?_)
        clear hK K
        refine tk 12 ?_
        refine rl 13 fun K hK => ?_
        have M1 : Hid (VOwn M 124 4 ((((wr.setCell ⟨g, i * 4, none⟩ (.int .i64 (rvF n F i jn 0))).setCell ⟨g, i * 4 + 1, none⟩ (.int .i64 (rvF n F i jn 1))).setCell ⟨g, i * 4 + 2, none⟩ (.int .i64 (rvF n F i jn 2))).setCell ⟨g, i * 4 + 3, none⟩ (.int .i64 (rvF n F i jn 3))).drew (.slice (some ⟨g, 0, none⟩) n c) n (intF (swF1 (rvF n F i) i jn)) ∧ Fr (fun b => b = g) w ((((wr.setCell ⟨g, i * 4, none⟩ (.int .i64 (rvF n F i jn 0))).setCell ⟨g, i * 4 + 1, none⟩ (.int .i64 (rvF n F i jn 1))).setCell ⟨g, i * 4 + 2, none⟩ (.int .i64 (rvF n F i jn 2))).setCell ⟨g, i * 4 + 3, none⟩ (.int .i64 (rvF n F i jn 3))).drew) := HM1.out
        go_simp
        refine hK.out _ _ trivial (fun _ => ?_)
        clear hK K
        generalize ((((wr.setCell ⟨g, i * 4, none⟩ (.int .i64 (rvF n F i jn 0))).setCell ⟨g, i * 4 + 1, none⟩ (.int .i64 (rvF n F i jn 1))).setCell ⟨g, i * 4 + 2, none⟩ (.int .i64 (rvF n F i jn 2))).setCell ⟨g, i * 4 + 3, none⟩ (.int .i64 (rvF n F i jn 3))).drew = W1 at M1 ⊢
        clear HM1 c0 c1 c2 c3 d0 d1 d2 d3 q0 q1 q2 q3
        have d0 : W1.cell? ⟨g, jn * 4, none⟩ = some (.int .i64 (rvF n F i jn 0)) := by
          have h9 : W1.cell? ⟨g, jn * 4, none⟩ = some (.int .i64 (swF1 (rvF n F i) i jn jn 0)) := M1.out.1.cell (i := jn) (j := 0) (by omega) (by omega)
          rw [swF1_ne (show jn ≠ i by omega)] at h9
          exact h9
        have d1 : W1.cell? ⟨g, jn * 4 + 1, none⟩ = some (.int .i64 (rvF n F i jn 1)) := by
          have h9 : W1.cell? ⟨g, jn * 4 + 1, none⟩ = some (.int .i64 (swF1 (rvF n F i) i jn jn 1)) := M1.out.1.cell (i := jn) (j := 1) (by omega) (by omega)
          rw [swF1_ne (show jn ≠ i by omega)] at h9
          exact h9
        have d2 : W1.cell? ⟨g, jn * 4 + 2, none⟩ = some (.int .i64 (rvF n F i jn 2)) := by
          have h9 : W1.cell? ⟨g, jn * 4 + 2, none⟩ = some (.int .i64 (swF1 (rvF n F i) i jn jn 2)) := M1.out.1.cell (i := jn) (j := 2) (by omega) (by omega)
          rw [swF1_ne (show jn ≠ i by omega)] at h9
          exact h9
        have d3 : W1.cell? ⟨g, jn * 4 + 3, none⟩ = some (.int .i64 (rvF n F i jn 3)) := by
          have h9 : W1.cell? ⟨g, jn * 4 + 3, none⟩ = some (.int .i64 (swF1 (rvF n F i) i jn jn 3)) := M1.out.1.cell (i := jn) (j := 3) (by omega) (by omega)
          rw [swF1_ne (show jn ≠ i by omega)] at h9
          exact h9
        have q0 := M1.out.1.free (jn * 4)
        have q1 := M1.out.1.free (jn * 4 + 1)
        have q2 := M1.out.1.free (jn * 4 + 2)
        have q3 := M1.out.1.free (jn * 4 + 3)
        have M2 : Hid (VOwn M 124 4 ((((W1.setCell ⟨g, jn * 4, none⟩ (.int .i64 (rvF n F i i 0))).setCell ⟨g, jn * 4 + 1, none⟩ (.int .i64 (rvF n F i i 1))).setCell ⟨g, jn * 4 + 2, none⟩ (.int .i64 (rvF n F i i 2))).setCell ⟨g, jn * 4 + 3, none⟩ (.int .i64 (rvF n F i i 3))) (.slice (some ⟨g, 0, none⟩) n c) n (intF (rvF n F (i + 1))) ∧ Fr (fun b => b = g) w ((((W1.setCell ⟨g, jn * 4, none⟩ (.int .i64 (rvF n F i i 0))).setCell ⟨g, jn * 4 + 1, none⟩ (.int .i64 (rvF n F i i 1))).setCell ⟨g, jn * 4 + 2, none⟩ (.int .i64 (rvF n F i i 2))).setCell ⟨g, jn * 4 + 3, none⟩ (.int .i64 (rvF n F i i 3)))) := swap2 (by omega) (by omega) M1.out.1 M1.out.2
        refine tk 14 ?_
        refine rl 15 fun K hK => ?_
        go_simp
        refine hK.out _ _ trivial (fun _ => ?_)
        clear hK K
        refine wpAnyH_done (by kernel_rfl) ?_ _
        generalize ((((W1.setCell ⟨g, jn * 4, none⟩ (.int .i64 (rvF n F i i 0))).setCell ⟨g, jn * 4 + 1, none⟩ (.int .i64 (rvF n F i i 1))).setCell ⟨g, jn * 4 + 2, none⟩ (.int .i64 (rvF n F i i 2))).setCell ⟨g, jn * 4 + 3, none⟩ (.int .i64 (rvF n F i i 3))) = W2 at M2 ⊢
        clear d0 d1 d2 d3 q0 q1 q2 q3 M1
        obtain ⟨jp, rfl⟩ : ∃ jp, jn = jp + 1 := ⟨jn - 1, by omega⟩
        go_wp2_with fail
        go_roundw
        case rel => exact ⟨i + 1, jp, by omega, by go_num, by go_num, M2⟩
        case measure => simp [intOf]; omega
      · go_simp
        refine hK.out _ _ trivial (fun _ => ?_)
        clear hK K
        refine rl 7 fun K hK => ?_
        go_simp
        refine hK.out _ _ trivial (fun _ => ?_)
        clear hK K
        refine tk 12 ?_
        refine rl 13 fun K hK => ?_
        have M1 : Hid (VOwn M 124 4 ((((wr.setCell ⟨g, i * 4, none⟩ (.int .i64 (rvF n F i jn 0))).setCell ⟨g, i * 4 + 1, none⟩ (.int .i64 (rvF n F i jn 1))).setCell ⟨g, i * 4 + 2, none⟩ (.int .i64 (rvF n F i jn 2))).setCell ⟨g, i * 4 + 3, none⟩ (.int .i64 (rvF n F i jn 3))).drew (.slice (some ⟨g, 0, none⟩) n c) n (intF (swF1 (rvF n F i) i jn)) ∧ Fr (fun b => b = g) w ((((wr.setCell ⟨g, i * 4, none⟩ (.int .i64 (rvF n F i jn 0))).setCell ⟨g, i * 4 + 1, none⟩ (.int .i64 (rvF n F i jn 1))).setCell ⟨g, i * 4 + 2, none⟩ (.int .i64 (rvF n F i jn 2))).setCell ⟨g, i * 4 + 3, none⟩ (.int .i64 (rvF n F i jn 3))).drew) := HM1.out
        go_simp
        refine hK.out _ _ trivial (fun _ => ?_)
        clear hK K
        generalize ((((wr.setCell ⟨g, i * 4, none⟩ (.int .i64 (rvF n F i jn 0))).setCell ⟨g, i * 4 + 1, none⟩ (.int .i64 (rvF n F i jn 1))).setCell ⟨g, i * 4 + 2, none⟩ (.int .i64 (rvF n F i jn 2))).setCell ⟨g, i * 4 + 3, none⟩ (.int .i64 (rvF n F i jn 3))).drew = W1 at M1 ⊢
        clear HM1 c0 c1 c2 c3 d0 d1 d2 d3 q0 q1 q2 q3
        have d0 : W1.cell? ⟨g, jn * 4, none⟩ = some (.int .i64 (rvF n F i jn 0)) := by
          have h9 : W1.cell? ⟨g, jn * 4, none⟩ = some (.int .i64 (swF1 (rvF n F i) i jn jn 0)) := M1.out.1.cell (i := jn) (j := 0) (by omega) (by omega)
          rw [swF1_ne (show jn ≠ i by omega)] at h9
          exact h9
        have d1 : W1.cell? ⟨g, jn * 4 + 1, none⟩ = some (.int .i64 (rvF n F i jn 1)) := by
          have h9 : W1.cell? ⟨g, jn * 4 + 1, none⟩ = some (.int .i64 (swF1 (rvF n F i) i jn jn 1)) := M1.out.1.cell (i := jn) (j := 1) (by omega) (by omega)
          rw [swF1_ne (show jn ≠ i by omega)] at h9
          exact h9
        have d2 : W1.cell? ⟨g, jn * 4 + 2, none⟩ = some (.int .i64 (rvF n F i jn 2)) := by
          have h9 : W1.cell? ⟨g, jn * 4 + 2, none⟩ = some (.int .i64 (swF1 (rvF n F i) i jn jn 2)) := M1.out.1.cell (i := jn) (j := 2) (by omega) (by omega)
          rw [swF1_ne (show jn ≠ i by omega)] at h9
          exact h9
        have d3 : W1.cell? ⟨g, jn * 4 + 3, none⟩ = some (.int .i64 (rvF n F i jn 3)) := by
          have h9 : W1.cell? ⟨g, jn * 4 + 3, none⟩ = some (.int .i64 (swF1 (rvF n F i) i jn jn 3)) := M1.out.1.cell (i := jn) (j := 3) (by omega) (by omega)
          rw [swF1_ne (show jn ≠ i by omega)] at h9
          exact h9
        have q0 := M1.out.1.free (jn * 4)
        have q1 := M1.out.1.free (jn * 4 + 1)
        have q2 := M1.out.1.free (jn * 4 + 2)
        have q3 := M1.out.1.free (jn * 4 + 3)
        have M2 : Hid (VOwn M 124 4 ((((W1.setCell ⟨g, jn * 4, none⟩ (.int .i64 (rvF n F i i 0))).setCell ⟨g, jn * 4 + 1, none⟩ (.int .i64 (rvF n F i i 1))).setCell ⟨g, jn * 4 + 2, none⟩ (.int .i64 (rvF n F i i 2))).setCell ⟨g, jn * 4 + 3, none⟩ (.int .i64 (rvF n F i i 3))) (.slice (some ⟨g, 0, none⟩) n c) n (intF (rvF n F (i + 1))) ∧ Fr (fun b => b = g) w ((((W1.setCell ⟨g, jn * 4, none⟩ (.int .i64 (rvF n F i i 0))).setCell ⟨g, jn * 4 + 1, none⟩ (.int .i64 (rvF n F i i 1))).setCell ⟨g, jn * 4 + 2, none⟩ (.int .i64 (rvF n F i i 2))).setCell ⟨g, jn * 4 + 3, none⟩ (.int .i64 (rvF n F i i 3)))) := swap2 (by omega) (by omega) M1.out.1 M1.out.2
        refine tk 14 ?_
        refine rl 15 fun K hK => ?_
        go_simp
        refine hK.out _ _ trivial (fun _ => ?_)
        clear hK K
        refine wpAnyH_done (by kernel_rfl) ?_ _
        generalize ((((W1.setCell ⟨g, jn * 4, none⟩ (.int .i64 (rvF n F i i 0))).setCell ⟨g, jn * 4 + 1, none⟩ (.int .i64 (rvF n F i i 1))).setCell ⟨g, jn * 4 + 2, none⟩ (.int .i64 (rvF n F i i 2))).setCell ⟨g, jn * 4 + 3, none⟩ (.int .i64 (rvF n F i i 3))) = W2 at M2 ⊢
        clear d0 d1 d2 d3 q0 q1 q2 q3 M1
        obtain ⟨jp, rfl⟩ : ∃ jp, jn = jp + 1 := ⟨jn - 1, by omega⟩
        go_wp2_with fail
        go_roundw
        case rel => exact ⟨i + 1, jp, by omega, by go_num, by go_num, M2⟩
        case measure => simp [intOf]; omega
    · have hge : ¬ (i : Int) < (jn : Int) := by omega
      have HE : Hid (VOwn M 124 4 wr (.slice (some ⟨g, 0, none⟩) n c) n (intF (fun i j => F (n - 1 - i) j)) ∧ Fr (fun b => b = g) w wr) := ⟨D.out.1.congr fun r hr k _ => by
        show Value.int .i64 (rvF n F i r k) = Value.int .i64 (F (n - 1 - r) k)
        by_cases d : r < i ∨ n - 1 - r < i
        · rw [rvF, if_pos d]
        · rw [rvF, if_neg d, show n - 1 - r = r by omega], D.out.2⟩
      clear D
      go_wp2_with fail
      go_end0
      exact ⟨rfl, HE.out.1, HE.out.2⟩

end Go.Proofs.Ytoennemahlakeaa
