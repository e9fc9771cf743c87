import Derived.Test.YtjhmaofjmalglaaGreatPb
namespace Go.Proofs.YtjhmaofjmalglaaGreat
open Go.RowKit Go.Lib

set_option maxRecDepth 100000 in
set_option maxHeartbeats 16000000 in
theorem specPlace7 {v : Nv} (pa : Option Addr) (pc : Nat) (ja : Option Addr) (jc : Nat) (la : Option Addr) (nl lc : Nat) (L : Nat → Int) (fp fa fw lg : Int) (w : World) (hn : v.n ≤ 1048576) (hm : v.m ≤ 1048576) (hnl : nl ≤ 1048576) (hP : PsAt 0 w pa v.n v.P) (hJ : JsAt 0 w ja v.m v.J) (hps : ∀ i, i < v.n → (v.P i).nm.size ≤ maxLen) (hjs : ∀ i, i < v.m → (v.J i).ne ≤ 1048576 ∧ (v.J i).nm.size ≤ maxLen) (hL : IsAt 0 w la nl L) :
    Calls Tryz.prog 7 #[.agg #[.slice pa v.n pc, .slice ja v.m jc], .slice la nl lc, .agg #[.int .i64 fp, .int .i64 fa, .int .i64 fw], .int .i64 lg] w fun e w' => PlR w (plO v nl L fp fa fw lg) fp fa fw lg (plB v L fp.toNat fw) e w' := by
  have H : Hid (PsAt 0 w pa v.n v.P ∧ JsAt 0 w ja v.m v.J ∧ (∀ i, i < v.n → (v.P i).nm.size ≤ maxLen) ∧ (∀ i, i < v.m → (v.J i).ne ≤ 1048576 ∧ (v.J i).nm.size ≤ maxLen) ∧ IsAt 0 w la nl L) := ⟨hP, hJ, hps, hjs, hL⟩
  have S0 : Hid (Below w.heap.size w (((w.alloc (.cells #[.slice pa v.n pc, .slice ja v.m jc] 40)).alloc (.cells #[.int .i64 fp, .int .i64 fa, .int .i64 fw] 30)).alloc (.cells #[.bool false, .int .i64 0, .int .i64 0, .int .i64 0, .int .i64 0, .slice none 0 0] 35)) ∧ Box (((w.alloc (.cells #[.slice pa v.n pc, .slice ja v.m jc] 40)).alloc (.cells #[.int .i64 fp, .int .i64 fa, .int .i64 fw] 30)).alloc (.cells #[.bool false, .int .i64 0, .int .i64 0, .int .i64 0, .int .i64 0, .slice none 0 0] 35)) (w.heap.size) 40 #[.slice pa v.n pc, .slice ja v.m jc] ∧ Box (((w.alloc (.cells #[.slice pa v.n pc, .slice ja v.m jc] 40)).alloc (.cells #[.int .i64 fp, .int .i64 fa, .int .i64 fw] 30)).alloc (.cells #[.bool false, .int .i64 0, .int .i64 0, .int .i64 0, .int .i64 0, .slice none 0 0] 35)) (w.heap.size + 1) 30 #[.int .i64 fp, .int .i64 fa, .int .i64 fw] ∧ Box (((w.alloc (.cells #[.slice pa v.n pc, .slice ja v.m jc] 40)).alloc (.cells #[.int .i64 fp, .int .i64 fa, .int .i64 fw] 30)).alloc (.cells #[.bool false, .int .i64 0, .int .i64 0, .int .i64 0, .int .i64 0, .slice none 0 0] 35)) (w.heap.size + 1 + 1) 35 #[.bool false, .int .i64 0, .int .i64 0, .int .i64 0, .int .i64 0, .slice none 0 0]) := ⟨((Below.refl _ _).alloc (Nat.le_refl _) _ |>.alloc (by simp) _ |>.alloc (by simp; omega) _), (((Box.new w 40 #[.slice pa v.n pc, .slice ja v.m jc]).alloc (.cells #[.int .i64 fp, .int .i64 fa, .int .i64 fw] 30)).alloc (.cells #[.bool false, .int .i64 0, .int .i64 0, .int .i64 0, .int .i64 0, .slice none 0 0] 35)), by have := ((Box.new (w.alloc (.cells #[.slice pa v.n pc, .slice ja v.m jc] 40)) 30 #[.int .i64 fp, .int .i64 fa, .int .i64 fw]).alloc (.cells #[.bool false, .int .i64 0, .int .i64 0, .int .i64 0, .int .i64 0, .slice none 0 0] 35)); simpa using this, by have := (Box.new ((w.alloc (.cells #[.slice pa v.n pc, .slice ja v.m jc] 40)).alloc (.cells #[.int .i64 fp, .int .i64 fa, .int .i64 fw] 30)) 35 #[.bool false, .int .i64 0, .int .i64 0, .int .i64 0, .int .i64 0, .slice none 0 0]); simpa using this⟩
  clear hP hJ hps hjs hL
  obtain ⟨u1, HU1⟩ : ∃ u, Hid (liesF v.n v.P v.m v.J nl L = u) := ⟨_, rfl⟩
  obtain ⟨u2, HU2⟩ : ∃ u, Hid (spotB v fp fa fw = u) := ⟨_, rfl⟩
  obtain ⟨u3, HU3⟩ : ∃ u, Hid (inB lg 1 100000 = u) := ⟨_, rfl⟩
  go_enter Tryz.func7, Tryz.ntmps7
  go_upto_region 1 with fail
  generalize (((w.alloc (.cells #[.slice pa v.n pc, .slice ja v.m jc] 40)).alloc (.cells #[.int .i64 fp, .int .i64 fa, .int .i64 fw] 30)).alloc (.cells #[.bool false, .int .i64 0, .int .i64 0, .int .i64 0, .int .i64 0, .slice none 0 0] 35)) = V0 at S0 ⊢
  have a0 : V0.cell? ⟨w.heap.size, 0, none⟩ = some (.slice pa v.n pc) := S0.out.2.1.cell 0
  have a1 : V0.cell? ⟨w.heap.size, 1, none⟩ = some (.slice ja v.m jc) := S0.out.2.1.cell 1
  have b0 : V0.cell? ⟨w.heap.size + 1, 0, none⟩ = some (.int .i64 fp) := S0.out.2.2.1.cell 0
  have b1 : V0.cell? ⟨w.heap.size + 1, 1, none⟩ = some (.int .i64 fa) := S0.out.2.2.1.cell 1
  have b2 : V0.cell? ⟨w.heap.size + 1, 2, none⟩ = some (.int .i64 fw) := S0.out.2.2.1.cell 2
  go_wp2_with fail
  clear a0 a1 b0 b1 b2
  refine (spec8 pa v.n pc v.P ja v.m jc v.J la nl lc L V0 hn hm hnl (H.out.1.mono (Nat.le_refl _) S0.out.1 (Nat.le_refl _)) (H.out.2.1.mono (Nat.le_refl _) S0.out.1 (Nat.le_refl _)) H.out.2.2.1 H.out.2.2.2.1 (H.out.2.2.2.2.mono (Nat.le_refl _) S0.out.1 (Nat.le_refl _))).mono ?_
  rintro e w1 ⟨he, hb⟩
  rw [HU1.out] at he
  subst he
  have MA16 : Hid (Below w.heap.size w w1 ∧ Box w1 (w.heap.size) 40 #[.slice pa v.n pc, .slice ja v.m jc] ∧ Box w1 (w.heap.size + 1) 30 #[.int .i64 fp, .int .i64 fa, .int .i64 fw] ∧ Box w1 (w.heap.size + 1 + 1) 35 #[.bool false, .int .i64 0, .int .i64 0, .int .i64 0, .int .i64 0, .slice none 0 0]) := ⟨S0.out.1.trans (hb.mono S0.out.1.size), S0.out.2.1.mono hb (Nat.le_refl _), S0.out.2.2.1.mono hb (Nat.le_refl _), S0.out.2.2.2.mono hb (Nat.le_refl _)⟩
  clear hb S0
  cases u1 with
  | false =>
    have HN : Hid (plO v nl L fp fa fw lg = none) := by rw [plO, HU1.out]; rfl
    have z0 : w1.cell? ⟨w.heap.size + 1 + 1, 0, none⟩ = some (.bool false) := MA16.out.2.2.2.cell 0
    have z1 : w1.cell? ⟨w.heap.size + 1 + 1, 1, none⟩ = some (.int .i64 0) := MA16.out.2.2.2.cell 1
    have z2 : w1.cell? ⟨w.heap.size + 1 + 1, 2, none⟩ = some (.int .i64 0) := MA16.out.2.2.2.cell 2
    have z3 : w1.cell? ⟨w.heap.size + 1 + 1, 3, none⟩ = some (.int .i64 0) := MA16.out.2.2.2.cell 3
    have z4 : w1.cell? ⟨w.heap.size + 1 + 1, 4, none⟩ = some (.int .i64 0) := MA16.out.2.2.2.cell 4
    have z5 : w1.cell? ⟨w.heap.size + 1 + 1, 5, none⟩ = some (.slice none 0 0) := MA16.out.2.2.2.cell 5
    have zf0 := MA16.out.2.2.2.free 0
    have zf1 := MA16.out.2.2.2.free 1
    have zf2 := MA16.out.2.2.2.free 2
    have zf3 := MA16.out.2.2.2.free 3
    have zf4 := MA16.out.2.2.2.free 4
    have zf5 := MA16.out.2.2.2.free 5
    have MA19 : Hid (Below w.heap.size w ((((((w1.setCell ⟨w.heap.size + 1 + 1, 0, none⟩ (.bool false)).setCell ⟨w.heap.size + 1 + 1, 1, none⟩ (.int .i64 0)).setCell ⟨w.heap.size + 1 + 1, 2, none⟩ (.int .i64 0)).setCell ⟨w.heap.size + 1 + 1, 3, none⟩ (.int .i64 0)).setCell ⟨w.heap.size + 1 + 1, 4, none⟩ (.int .i64 0)).setCell ⟨w.heap.size + 1 + 1, 5, none⟩ (.slice none 0 0)) ∧ Box ((((((w1.setCell ⟨w.heap.size + 1 + 1, 0, none⟩ (.bool false)).setCell ⟨w.heap.size + 1 + 1, 1, none⟩ (.int .i64 0)).setCell ⟨w.heap.size + 1 + 1, 2, none⟩ (.int .i64 0)).setCell ⟨w.heap.size + 1 + 1, 3, none⟩ (.int .i64 0)).setCell ⟨w.heap.size + 1 + 1, 4, none⟩ (.int .i64 0)).setCell ⟨w.heap.size + 1 + 1, 5, none⟩ (.slice none 0 0)) (w.heap.size) 40 #[.slice pa v.n pc, .slice ja v.m jc] ∧ Box ((((((w1.setCell ⟨w.heap.size + 1 + 1, 0, none⟩ (.bool false)).setCell ⟨w.heap.size + 1 + 1, 1, none⟩ (.int .i64 0)).setCell ⟨w.heap.size + 1 + 1, 2, none⟩ (.int .i64 0)).setCell ⟨w.heap.size + 1 + 1, 3, none⟩ (.int .i64 0)).setCell ⟨w.heap.size + 1 + 1, 4, none⟩ (.int .i64 0)).setCell ⟨w.heap.size + 1 + 1, 5, none⟩ (.slice none 0 0)) (w.heap.size + 1) 30 #[.int .i64 fp, .int .i64 fa, .int .i64 fw] ∧ Box ((((((w1.setCell ⟨w.heap.size + 1 + 1, 0, none⟩ (.bool false)).setCell ⟨w.heap.size + 1 + 1, 1, none⟩ (.int .i64 0)).setCell ⟨w.heap.size + 1 + 1, 2, none⟩ (.int .i64 0)).setCell ⟨w.heap.size + 1 + 1, 3, none⟩ (.int .i64 0)).setCell ⟨w.heap.size + 1 + 1, 4, none⟩ (.int .i64 0)).setCell ⟨w.heap.size + 1 + 1, 5, none⟩ (.slice none 0 0)) (w.heap.size + 1 + 1) 35 #[.bool false, .int .i64 0, .int .i64 0, .int .i64 0, .int .i64 0, .slice none 0 0]) := ⟨((((((MA16.out.1.setCell (Nat.le_add_right _ 2) _).setCell (Nat.le_add_right _ 2) _).setCell (Nat.le_add_right _ 2) _).setCell (Nat.le_add_right _ 2) _).setCell (Nat.le_add_right _ 2) _).setCell (Nat.le_add_right _ 2) _), ((((((MA16.out.2.1.other (box_ne MA16.out.2.1 MA16.out.2.2.2 (by decide)) _).other (box_ne MA16.out.2.1 MA16.out.2.2.2 (by decide)) _).other (box_ne MA16.out.2.1 MA16.out.2.2.2 (by decide)) _).other (box_ne MA16.out.2.1 MA16.out.2.2.2 (by decide)) _).other (box_ne MA16.out.2.1 MA16.out.2.2.2 (by decide)) _).other (box_ne MA16.out.2.1 MA16.out.2.2.2 (by decide)) _), ((((((MA16.out.2.2.1.other (box_ne MA16.out.2.2.1 MA16.out.2.2.2 (by decide)) _).other (box_ne MA16.out.2.2.1 MA16.out.2.2.2 (by decide)) _).other (box_ne MA16.out.2.2.1 MA16.out.2.2.2 (by decide)) _).other (box_ne MA16.out.2.2.1 MA16.out.2.2.2 (by decide)) _).other (box_ne MA16.out.2.2.1 MA16.out.2.2.2 (by decide)) _).other (box_ne MA16.out.2.2.1 MA16.out.2.2.2 (by decide)) _), by have h9 := ((((((MA16.out.2.2.2.set 0 (.bool false)).set 1 (.int .i64 0)).set 2 (.int .i64 0)).set 3 (.int .i64 0)).set 4 (.int .i64 0)).set 5 (.slice none 0 0)); exact h9⟩
    clear MA16
    go_wp2_with fail
    clear z0 z1 z2 z3 z4 z5 zf0 zf1 zf2 zf3 zf4 zf5
    generalize ((((((w1.setCell ⟨w.heap.size + 1 + 1, 0, none⟩ (.bool false)).setCell ⟨w.heap.size + 1 + 1, 1, none⟩ (.int .i64 0)).setCell ⟨w.heap.size + 1 + 1, 2, none⟩ (.int .i64 0)).setCell ⟨w.heap.size + 1 + 1, 3, none⟩ (.int .i64 0)).setCell ⟨w.heap.size + 1 + 1, 4, none⟩ (.int .i64 0)).setCell ⟨w.heap.size + 1 + 1, 5, none⟩ (.slice none 0 0)) = W9 at MA19 ⊢
    have z0 : W9.cell? ⟨w.heap.size + 1 + 1, 0, none⟩ = some (.bool false) := MA19.out.2.2.2.cell 0
    have z1 : W9.cell? ⟨w.heap.size + 1 + 1, 1, none⟩ = some (.int .i64 0) := MA19.out.2.2.2.cell 1
    have z2 : W9.cell? ⟨w.heap.size + 1 + 1, 2, none⟩ = some (.int .i64 0) := MA19.out.2.2.2.cell 2
    have z3 : W9.cell? ⟨w.heap.size + 1 + 1, 3, none⟩ = some (.int .i64 0) := MA19.out.2.2.2.cell 3
    have z4 : W9.cell? ⟨w.heap.size + 1 + 1, 4, none⟩ = some (.int .i64 0) := MA19.out.2.2.2.cell 4
    have z5 : W9.cell? ⟨w.heap.size + 1 + 1, 5, none⟩ = some (.slice none 0 0) := MA19.out.2.2.2.cell 5
    exact bodyPost_ret (v := .agg #[.bool false, .int .i64 0, .int .i64 0, .int .i64 0, .int .i64 0, .slice none 0 0]) (by simp [results, Tryz.results7, go_sem, z0, z1, z2, z3, z4, z5]) rfl (pl_no HN.out rfl MA19.out.1)
  | true =>
  have OK : Hid (v.Ok ∧ nl = v.m ∧ ∀ i, i < v.m → lieB v.J L i = true) := ⟨nvOk (by exact lies_ok HU1.out), lies_parts HU1.out⟩
  have a0 : w1.cell? ⟨w.heap.size, 0, none⟩ = some (.slice pa v.n pc) := MA16.out.2.1.cell 0
  have a1 : w1.cell? ⟨w.heap.size, 1, none⟩ = some (.slice ja v.m jc) := MA16.out.2.1.cell 1
  have b0 : w1.cell? ⟨w.heap.size + 1, 0, none⟩ = some (.int .i64 fp) := MA16.out.2.2.1.cell 0
  have b1 : w1.cell? ⟨w.heap.size + 1, 1, none⟩ = some (.int .i64 fa) := MA16.out.2.2.1.cell 1
  have b2 : w1.cell? ⟨w.heap.size + 1, 2, none⟩ = some (.int .i64 fw) := MA16.out.2.2.1.cell 2
  go_wp2_with fail
  clear a0 a1 b0 b1 b2
  refine (spot62 OK.out.1 pa pc ja jc fp fa fw w1 (H.out.1.mono (Nat.le_refl _) MA16.out.1 (Nat.le_refl _))).mono ?_
  rintro e w2 ⟨he, hb⟩
  rw [HU2.out] at he
  subst he
  have MA17 : Hid (Below w.heap.size w w2 ∧ Box w2 (w.heap.size) 40 #[.slice pa v.n pc, .slice ja v.m jc] ∧ Box w2 (w.heap.size + 1) 30 #[.int .i64 fp, .int .i64 fa, .int .i64 fw] ∧ Box w2 (w.heap.size + 1 + 1) 35 #[.bool false, .int .i64 0, .int .i64 0, .int .i64 0, .int .i64 0, .slice none 0 0]) := ⟨MA16.out.1.trans (hb.mono MA16.out.1.size), MA16.out.2.1.mono hb (Nat.le_refl _), MA16.out.2.2.1.mono hb (Nat.le_refl _), MA16.out.2.2.2.mono hb (Nat.le_refl _)⟩
  clear hb MA16
  cases u2 with
  | false =>
    have HN : Hid (plO v nl L fp fa fw lg = none) := by rw [plO, HU1.out, HU2.out]; rfl
    have z0 : w2.cell? ⟨w.heap.size + 1 + 1, 0, none⟩ = some (.bool false) := MA17.out.2.2.2.cell 0
    have z1 : w2.cell? ⟨w.heap.size + 1 + 1, 1, none⟩ = some (.int .i64 0) := MA17.out.2.2.2.cell 1
    have z2 : w2.cell? ⟨w.heap.size + 1 + 1, 2, none⟩ = some (.int .i64 0) := MA17.out.2.2.2.cell 2
    have z3 : w2.cell? ⟨w.heap.size + 1 + 1, 3, none⟩ = some (.int .i64 0) := MA17.out.2.2.2.cell 3
    have z4 : w2.cell? ⟨w.heap.size + 1 + 1, 4, none⟩ = some (.int .i64 0) := MA17.out.2.2.2.cell 4
    have z5 : w2.cell? ⟨w.heap.size + 1 + 1, 5, none⟩ = some (.slice none 0 0) := MA17.out.2.2.2.cell 5
    have zf0 := MA17.out.2.2.2.free 0
    have zf1 := MA17.out.2.2.2.free 1
    have zf2 := MA17.out.2.2.2.free 2
    have zf3 := MA17.out.2.2.2.free 3
    have zf4 := MA17.out.2.2.2.free 4
    have zf5 := MA17.out.2.2.2.free 5
    have MA20 : Hid (Below w.heap.size w ((((((w2.setCell ⟨w.heap.size + 1 + 1, 0, none⟩ (.bool false)).setCell ⟨w.heap.size + 1 + 1, 1, none⟩ (.int .i64 0)).setCell ⟨w.heap.size + 1 + 1, 2, none⟩ (.int .i64 0)).setCell ⟨w.heap.size + 1 + 1, 3, none⟩ (.int .i64 0)).setCell ⟨w.heap.size + 1 + 1, 4, none⟩ (.int .i64 0)).setCell ⟨w.heap.size + 1 + 1, 5, none⟩ (.slice none 0 0)) ∧ Box ((((((w2.setCell ⟨w.heap.size + 1 + 1, 0, none⟩ (.bool false)).setCell ⟨w.heap.size + 1 + 1, 1, none⟩ (.int .i64 0)).setCell ⟨w.heap.size + 1 + 1, 2, none⟩ (.int .i64 0)).setCell ⟨w.heap.size + 1 + 1, 3, none⟩ (.int .i64 0)).setCell ⟨w.heap.size + 1 + 1, 4, none⟩ (.int .i64 0)).setCell ⟨w.heap.size + 1 + 1, 5, none⟩ (.slice none 0 0)) (w.heap.size) 40 #[.slice pa v.n pc, .slice ja v.m jc] ∧ Box ((((((w2.setCell ⟨w.heap.size + 1 + 1, 0, none⟩ (.bool false)).setCell ⟨w.heap.size + 1 + 1, 1, none⟩ (.int .i64 0)).setCell ⟨w.heap.size + 1 + 1, 2, none⟩ (.int .i64 0)).setCell ⟨w.heap.size + 1 + 1, 3, none⟩ (.int .i64 0)).setCell ⟨w.heap.size + 1 + 1, 4, none⟩ (.int .i64 0)).setCell ⟨w.heap.size + 1 + 1, 5, none⟩ (.slice none 0 0)) (w.heap.size + 1) 30 #[.int .i64 fp, .int .i64 fa, .int .i64 fw] ∧ Box ((((((w2.setCell ⟨w.heap.size + 1 + 1, 0, none⟩ (.bool false)).setCell ⟨w.heap.size + 1 + 1, 1, none⟩ (.int .i64 0)).setCell ⟨w.heap.size + 1 + 1, 2, none⟩ (.int .i64 0)).setCell ⟨w.heap.size + 1 + 1, 3, none⟩ (.int .i64 0)).setCell ⟨w.heap.size + 1 + 1, 4, none⟩ (.int .i64 0)).setCell ⟨w.heap.size + 1 + 1, 5, none⟩ (.slice none 0 0)) (w.heap.size + 1 + 1) 35 #[.bool false, .int .i64 0, .int .i64 0, .int .i64 0, .int .i64 0, .slice none 0 0]) := ⟨((((((MA17.out.1.setCell (Nat.le_add_right _ 2) _).setCell (Nat.le_add_right _ 2) _).setCell (Nat.le_add_right _ 2) _).setCell (Nat.le_add_right _ 2) _).setCell (Nat.le_add_right _ 2) _).setCell (Nat.le_add_right _ 2) _), ((((((MA17.out.2.1.other (box_ne MA17.out.2.1 MA17.out.2.2.2 (by decide)) _).other (box_ne MA17.out.2.1 MA17.out.2.2.2 (by decide)) _).other (box_ne MA17.out.2.1 MA17.out.2.2.2 (by decide)) _).other (box_ne MA17.out.2.1 MA17.out.2.2.2 (by decide)) _).other (box_ne MA17.out.2.1 MA17.out.2.2.2 (by decide)) _).other (box_ne MA17.out.2.1 MA17.out.2.2.2 (by decide)) _), ((((((MA17.out.2.2.1.other (box_ne MA17.out.2.2.1 MA17.out.2.2.2 (by decide)) _).other (box_ne MA17.out.2.2.1 MA17.out.2.2.2 (by decide)) _).other (box_ne MA17.out.2.2.1 MA17.out.2.2.2 (by decide)) _).other (box_ne MA17.out.2.2.1 MA17.out.2.2.2 (by decide)) _).other (box_ne MA17.out.2.2.1 MA17.out.2.2.2 (by decide)) _).other (box_ne MA17.out.2.2.1 MA17.out.2.2.2 (by decide)) _), by have h9 := ((((((MA17.out.2.2.2.set 0 (.bool false)).set 1 (.int .i64 0)).set 2 (.int .i64 0)).set 3 (.int .i64 0)).set 4 (.int .i64 0)).set 5 (.slice none 0 0)); exact h9⟩
    clear MA17
    go_wp2_with fail
    clear z0 z1 z2 z3 z4 z5 zf0 zf1 zf2 zf3 zf4 zf5
    generalize ((((((w2.setCell ⟨w.heap.size + 1 + 1, 0, none⟩ (.bool false)).setCell ⟨w.heap.size + 1 + 1, 1, none⟩ (.int .i64 0)).setCell ⟨w.heap.size + 1 + 1, 2, none⟩ (.int .i64 0)).setCell ⟨w.heap.size + 1 + 1, 3, none⟩ (.int .i64 0)).setCell ⟨w.heap.size + 1 + 1, 4, none⟩ (.int .i64 0)).setCell ⟨w.heap.size + 1 + 1, 5, none⟩ (.slice none 0 0)) = W9 at MA20 ⊢
    have z0 : W9.cell? ⟨w.heap.size + 1 + 1, 0, none⟩ = some (.bool false) := MA20.out.2.2.2.cell 0
    have z1 : W9.cell? ⟨w.heap.size + 1 + 1, 1, none⟩ = some (.int .i64 0) := MA20.out.2.2.2.cell 1
    have z2 : W9.cell? ⟨w.heap.size + 1 + 1, 2, none⟩ = some (.int .i64 0) := MA20.out.2.2.2.cell 2
    have z3 : W9.cell? ⟨w.heap.size + 1 + 1, 3, none⟩ = some (.int .i64 0) := MA20.out.2.2.2.cell 3
    have z4 : W9.cell? ⟨w.heap.size + 1 + 1, 4, none⟩ = some (.int .i64 0) := MA20.out.2.2.2.cell 4
    have z5 : W9.cell? ⟨w.heap.size + 1 + 1, 5, none⟩ = some (.slice none 0 0) := MA20.out.2.2.2.cell 5
    exact bodyPost_ret (v := .agg #[.bool false, .int .i64 0, .int .i64 0, .int .i64 0, .int .i64 0, .slice none 0 0]) (by simp [results, Tryz.results7, go_sem, z0, z1, z2, z3, z4, z5]) rfl (pl_no HN.out rfl MA20.out.1)
  | true =>
  go_wp2_with fail
  refine (l22in53 lg 1 100000 w2).mono ?_
  rintro e w3 ⟨he, hb⟩
  rw [HU3.out] at he
  subst he
  have hb2 : Below w2.heap.size w2 w3 := by rw [hb]; exact Below.refl _ _
  clear hb
  have hb := hb2
  clear hb2
  have MA18 : Hid (Below w.heap.size w w3 ∧ Box w3 (w.heap.size) 40 #[.slice pa v.n pc, .slice ja v.m jc] ∧ Box w3 (w.heap.size + 1) 30 #[.int .i64 fp, .int .i64 fa, .int .i64 fw] ∧ Box w3 (w.heap.size + 1 + 1) 35 #[.bool false, .int .i64 0, .int .i64 0, .int .i64 0, .int .i64 0, .slice none 0 0]) := ⟨MA17.out.1.trans (hb.mono MA17.out.1.size), MA17.out.2.1.mono hb (Nat.le_refl _), MA17.out.2.2.1.mono hb (Nat.le_refl _), MA17.out.2.2.2.mono hb (Nat.le_refl _)⟩
  clear hb MA17
  cases u3 with
  | false =>
    have HN : Hid (plO v nl L fp fa fw lg = none) := by rw [plO, HU1.out, HU2.out, HU3.out]; rfl
    have z0 : w3.cell? ⟨w.heap.size + 1 + 1, 0, none⟩ = some (.bool false) := MA18.out.2.2.2.cell 0
    have z1 : w3.cell? ⟨w.heap.size + 1 + 1, 1, none⟩ = some (.int .i64 0) := MA18.out.2.2.2.cell 1
    have z2 : w3.cell? ⟨w.heap.size + 1 + 1, 2, none⟩ = some (.int .i64 0) := MA18.out.2.2.2.cell 2
    have z3 : w3.cell? ⟨w.heap.size + 1 + 1, 3, none⟩ = some (.int .i64 0) := MA18.out.2.2.2.cell 3
    have z4 : w3.cell? ⟨w.heap.size + 1 + 1, 4, none⟩ = some (.int .i64 0) := MA18.out.2.2.2.cell 4
    have z5 : w3.cell? ⟨w.heap.size + 1 + 1, 5, none⟩ = some (.slice none 0 0) := MA18.out.2.2.2.cell 5
    have zf0 := MA18.out.2.2.2.free 0
    have zf1 := MA18.out.2.2.2.free 1
    have zf2 := MA18.out.2.2.2.free 2
    have zf3 := MA18.out.2.2.2.free 3
    have zf4 := MA18.out.2.2.2.free 4
    have zf5 := MA18.out.2.2.2.free 5
    have MA21 : Hid (Below w.heap.size w ((((((w3.setCell ⟨w.heap.size + 1 + 1, 0, none⟩ (.bool false)).setCell ⟨w.heap.size + 1 + 1, 1, none⟩ (.int .i64 0)).setCell ⟨w.heap.size + 1 + 1, 2, none⟩ (.int .i64 0)).setCell ⟨w.heap.size + 1 + 1, 3, none⟩ (.int .i64 0)).setCell ⟨w.heap.size + 1 + 1, 4, none⟩ (.int .i64 0)).setCell ⟨w.heap.size + 1 + 1, 5, none⟩ (.slice none 0 0)) ∧ Box ((((((w3.setCell ⟨w.heap.size + 1 + 1, 0, none⟩ (.bool false)).setCell ⟨w.heap.size + 1 + 1, 1, none⟩ (.int .i64 0)).setCell ⟨w.heap.size + 1 + 1, 2, none⟩ (.int .i64 0)).setCell ⟨w.heap.size + 1 + 1, 3, none⟩ (.int .i64 0)).setCell ⟨w.heap.size + 1 + 1, 4, none⟩ (.int .i64 0)).setCell ⟨w.heap.size + 1 + 1, 5, none⟩ (.slice none 0 0)) (w.heap.size) 40 #[.slice pa v.n pc, .slice ja v.m jc] ∧ Box ((((((w3.setCell ⟨w.heap.size + 1 + 1, 0, none⟩ (.bool false)).setCell ⟨w.heap.size + 1 + 1, 1, none⟩ (.int .i64 0)).setCell ⟨w.heap.size + 1 + 1, 2, none⟩ (.int .i64 0)).setCell ⟨w.heap.size + 1 + 1, 3, none⟩ (.int .i64 0)).setCell ⟨w.heap.size + 1 + 1, 4, none⟩ (.int .i64 0)).setCell ⟨w.heap.size + 1 + 1, 5, none⟩ (.slice none 0 0)) (w.heap.size + 1) 30 #[.int .i64 fp, .int .i64 fa, .int .i64 fw] ∧ Box ((((((w3.setCell ⟨w.heap.size + 1 + 1, 0, none⟩ (.bool false)).setCell ⟨w.heap.size + 1 + 1, 1, none⟩ (.int .i64 0)).setCell ⟨w.heap.size + 1 + 1, 2, none⟩ (.int .i64 0)).setCell ⟨w.heap.size + 1 + 1, 3, none⟩ (.int .i64 0)).setCell ⟨w.heap.size + 1 + 1, 4, none⟩ (.int .i64 0)).setCell ⟨w.heap.size + 1 + 1, 5, none⟩ (.slice none 0 0)) (w.heap.size + 1 + 1) 35 #[.bool false, .int .i64 0, .int .i64 0, .int .i64 0, .int .i64 0, .slice none 0 0]) := ⟨((((((MA18.out.1.setCell (Nat.le_add_right _ 2) _).setCell (Nat.le_add_right _ 2) _).setCell (Nat.le_add_right _ 2) _).setCell (Nat.le_add_right _ 2) _).setCell (Nat.le_add_right _ 2) _).setCell (Nat.le_add_right _ 2) _), ((((((MA18.out.2.1.other (box_ne MA18.out.2.1 MA18.out.2.2.2 (by decide)) _).other (box_ne MA18.out.2.1 MA18.out.2.2.2 (by decide)) _).other (box_ne MA18.out.2.1 MA18.out.2.2.2 (by decide)) _).other (box_ne MA18.out.2.1 MA18.out.2.2.2 (by decide)) _).other (box_ne MA18.out.2.1 MA18.out.2.2.2 (by decide)) _).other (box_ne MA18.out.2.1 MA18.out.2.2.2 (by decide)) _), ((((((MA18.out.2.2.1.other (box_ne MA18.out.2.2.1 MA18.out.2.2.2 (by decide)) _).other (box_ne MA18.out.2.2.1 MA18.out.2.2.2 (by decide)) _).other (box_ne MA18.out.2.2.1 MA18.out.2.2.2 (by decide)) _).other (box_ne MA18.out.2.2.1 MA18.out.2.2.2 (by decide)) _).other (box_ne MA18.out.2.2.1 MA18.out.2.2.2 (by decide)) _).other (box_ne MA18.out.2.2.1 MA18.out.2.2.2 (by decide)) _), by have h9 := ((((((MA18.out.2.2.2.set 0 (.bool false)).set 1 (.int .i64 0)).set 2 (.int .i64 0)).set 3 (.int .i64 0)).set 4 (.int .i64 0)).set 5 (.slice none 0 0)); exact h9⟩
    clear MA18
    go_wp2_with fail
    clear z0 z1 z2 z3 z4 z5 zf0 zf1 zf2 zf3 zf4 zf5
    generalize ((((((w3.setCell ⟨w.heap.size + 1 + 1, 0, none⟩ (.bool false)).setCell ⟨w.heap.size + 1 + 1, 1, none⟩ (.int .i64 0)).setCell ⟨w.heap.size + 1 + 1, 2, none⟩ (.int .i64 0)).setCell ⟨w.heap.size + 1 + 1, 3, none⟩ (.int .i64 0)).setCell ⟨w.heap.size + 1 + 1, 4, none⟩ (.int .i64 0)).setCell ⟨w.heap.size + 1 + 1, 5, none⟩ (.slice none 0 0)) = W9 at MA21 ⊢
    have z0 : W9.cell? ⟨w.heap.size + 1 + 1, 0, none⟩ = some (.bool false) := MA21.out.2.2.2.cell 0
    have z1 : W9.cell? ⟨w.heap.size + 1 + 1, 1, none⟩ = some (.int .i64 0) := MA21.out.2.2.2.cell 1
    have z2 : W9.cell? ⟨w.heap.size + 1 + 1, 2, none⟩ = some (.int .i64 0) := MA21.out.2.2.2.cell 2
    have z3 : W9.cell? ⟨w.heap.size + 1 + 1, 3, none⟩ = some (.int .i64 0) := MA21.out.2.2.2.cell 3
    have z4 : W9.cell? ⟨w.heap.size + 1 + 1, 4, none⟩ = some (.int .i64 0) := MA21.out.2.2.2.cell 4
    have z5 : W9.cell? ⟨w.heap.size + 1 + 1, 5, none⟩ = some (.slice none 0 0) := MA21.out.2.2.2.cell 5
    exact bodyPost_ret (v := .agg #[.bool false, .int .i64 0, .int .i64 0, .int .i64 0, .int .i64 0, .slice none 0 0]) (by simp [results, Tryz.results7, go_sem, z0, z1, z2, z3, z4, z5]) rfl (pl_no HN.out rfl MA21.out.1)
  | true =>
  obtain ⟨fq, rfl, hfq, hfw, hfa⟩ : ∃ q : Nat, fp = (q : Int) ∧ q < v.n ∧ (fw = 1 ∨ fw = -1) ∧ (0 ≤ fa ∧ fa ≤ (v.P q).ln) := spot_nat HU2.out
  obtain ⟨_, hnlm, _⟩ := OK.out
  subst hnlm
  have hlg : 1 ≤ lg ∧ lg ≤ 100000 := by have h9 := HU3.out; simp only [inB, Bool.and_eq_true, decide_eq_true_eq] at h9; exact h9
  obtain ⟨R, HR⟩ : ∃ R, Hid (plG (hvF v (fq : Int) fa fw (plB v L fq fw)) lg (plC v L fq fw) 200 0 = R) := ⟨_, rfl⟩
  have HO : Hid (plO v v.m L (fq : Int) fa fw lg = R) := by
    show _ = _
    rw [plO, HU1.out, HU2.out, HU3.out, ← HR.out]
    rfl
  obtain ⟨i0, hi0, hz0, hs0, hb0⟩ := info_parts infoStepZ
  have hvn := OK.out.1.n1
  have HX0 : Hid (farI (v.P fq).ln fa fw = hvF v (fq : Int) fa fw (plB v L fq fw) 0) := by show _ = _; rw [hvF, Int.toNat_natCast]
  have a0 : w3.cell? ⟨w.heap.size, 0, none⟩ = some (.slice pa v.n pc) := MA18.out.2.1.cell 0
  have a1 : w3.cell? ⟨w.heap.size, 1, none⟩ = some (.slice ja v.m jc) := MA18.out.2.1.cell 1
  have b0 : w3.cell? ⟨w.heap.size + 1, 0, none⟩ = some (.int .i64 (fq : Int)) := MA18.out.2.2.1.cell 0
  have b1 : w3.cell? ⟨w.heap.size + 1, 1, none⟩ = some (.int .i64 fa) := MA18.out.2.2.1.cell 1
  have b2 : w3.cell? ⟨w.heap.size + 1, 2, none⟩ = some (.int .i64 fw) := MA18.out.2.2.1.cell 2
  have MA22 : Hid (Below w.heap.size w (w3.alloc (.cells #[.int .i64 (fq : Int), .int .i64 fa, .int .i64 fw, .int .i64 lg, .slice none 0 0] 33)) ∧ Box (w3.alloc (.cells #[.int .i64 (fq : Int), .int .i64 fa, .int .i64 fw, .int .i64 lg, .slice none 0 0] 33)) (w.heap.size) 40 #[.slice pa v.n pc, .slice ja v.m jc] ∧ Box (w3.alloc (.cells #[.int .i64 (fq : Int), .int .i64 fa, .int .i64 fw, .int .i64 lg, .slice none 0 0] 33)) (w.heap.size + 1) 30 #[.int .i64 (fq : Int), .int .i64 fa, .int .i64 fw] ∧ Box (w3.alloc (.cells #[.int .i64 (fq : Int), .int .i64 fa, .int .i64 fw, .int .i64 lg, .slice none 0 0] 33)) (w.heap.size + 1 + 1) 35 #[.bool false, .int .i64 0, .int .i64 0, .int .i64 0, .int .i64 0, .slice none 0 0] ∧ Box (w3.alloc (.cells #[.int .i64 (fq : Int), .int .i64 fa, .int .i64 fw, .int .i64 lg, .slice none 0 0] 33)) (w3.heap.size) 33 #[.int .i64 (fq : Int), .int .i64 fa, .int .i64 fw, .int .i64 lg, .slice none 0 0]) := ⟨MA18.out.1.alloc MA18.out.1.size _, MA18.out.2.1.alloc _, MA18.out.2.2.1.alloc _, MA18.out.2.2.2.alloc _, Box.new _ _ _⟩
  have HL23 : Hid (w.heap.size ≤ w3.heap.size) := MA18.out.1.size
  go_upto_region 4 with fail
  clear a0 a1 b0 b1 b2 MA18
  generalize w3.alloc (.cells #[.int .i64 (fq : Int), .int .i64 fa, .int .i64 fw, .int .i64 lg, .slice none 0 0] 33) = V4 at MA22 ⊢
  generalize w3.heap.size = tb at MA22 HL23 ⊢
  have a0 : V4.cell? ⟨w.heap.size, 0, none⟩ = some (.slice pa v.n pc) := MA22.out.2.1.cell 0
  have a1 : V4.cell? ⟨w.heap.size, 1, none⟩ = some (.slice ja v.m jc) := MA22.out.2.1.cell 1
  have b0 : V4.cell? ⟨w.heap.size + 1, 0, none⟩ = some (.int .i64 (fq : Int)) := MA22.out.2.2.1.cell 0
  have b1 : V4.cell? ⟨w.heap.size + 1, 1, none⟩ = some (.int .i64 fa) := MA22.out.2.2.1.cell 1
  have b2 : V4.cell? ⟨w.heap.size + 1, 2, none⟩ = some (.int .i64 fw) := MA22.out.2.2.1.cell 2
  go_wp2_with fail
  clear a0 a1 b0 b1 b2
  refine (behind63 OK.out.1 pa pc ja jc fq fa fw V4 hfq hfa (H.out.1.mono (Nat.le_refl _) MA22.out.1 (Nat.le_refl _))).mono ?_
  rintro e w5 ⟨rfl, hb⟩
  have MA24 : Hid (Below w.heap.size w w5 ∧ Box w5 (w.heap.size) 40 #[.slice pa v.n pc, .slice ja v.m jc] ∧ Box w5 (w.heap.size + 1) 30 #[.int .i64 (fq : Int), .int .i64 fa, .int .i64 fw] ∧ Box w5 (w.heap.size + 1 + 1) 35 #[.bool false, .int .i64 0, .int .i64 0, .int .i64 0, .int .i64 0, .slice none 0 0] ∧ Box w5 (tb) 33 #[.int .i64 (fq : Int), .int .i64 fa, .int .i64 fw, .int .i64 lg, .slice none 0 0]) := ⟨MA22.out.1.trans (hb.mono MA22.out.1.size), MA22.out.2.1.mono hb (Nat.le_refl _), MA22.out.2.2.1.mono hb (Nat.le_refl _), MA22.out.2.2.2.1.mono hb (Nat.le_refl _), MA22.out.2.2.2.2.mono hb (Nat.le_refl _)⟩
  clear hb MA22
  have a0 : w5.cell? ⟨w.heap.size + 1, 0, none⟩ = some (.int .i64 (fq : Int)) := MA24.out.2.2.1.cell 0
  have a1 : w5.cell? ⟨w.heap.size + 1, 1, none⟩ = some (.int .i64 fa) := MA24.out.2.2.1.cell 1
  have a2 : w5.cell? ⟨w.heap.size + 1, 2, none⟩ = some (.int .i64 fw) := MA24.out.2.2.1.cell 2
  have MA25 : Hid (Below w.heap.size w (w5.alloc (.cells #[.int .i64 (fq : Int), .int .i64 fw] 74)) ∧ Box (w5.alloc (.cells #[.int .i64 (fq : Int), .int .i64 fw] 74)) (w.heap.size) 40 #[.slice pa v.n pc, .slice ja v.m jc] ∧ Box (w5.alloc (.cells #[.int .i64 (fq : Int), .int .i64 fw] 74)) (w.heap.size + 1) 30 #[.int .i64 (fq : Int), .int .i64 fa, .int .i64 fw] ∧ Box (w5.alloc (.cells #[.int .i64 (fq : Int), .int .i64 fw] 74)) (w.heap.size + 1 + 1) 35 #[.bool false, .int .i64 0, .int .i64 0, .int .i64 0, .int .i64 0, .slice none 0 0] ∧ Box (w5.alloc (.cells #[.int .i64 (fq : Int), .int .i64 fw] 74)) (tb) 33 #[.int .i64 (fq : Int), .int .i64 fa, .int .i64 fw, .int .i64 lg, .slice none 0 0] ∧ Box (w5.alloc (.cells #[.int .i64 (fq : Int), .int .i64 fw] 74)) (w5.heap.size) 74 #[.int .i64 (fq : Int), .int .i64 fw]) := ⟨MA24.out.1.alloc MA24.out.1.size _, MA24.out.2.1.alloc _, MA24.out.2.2.1.alloc _, MA24.out.2.2.2.1.alloc _, MA24.out.2.2.2.2.alloc _, Box.new _ _ _⟩
  have HL26 : Hid (w.heap.size ≤ w5.heap.size) := MA24.out.1.size
  go_wp2_with fail
  clear a0 a1 a2 MA24
  generalize w5.alloc (.cells #[.int .i64 (fq : Int), .int .i64 fw] 74) = V6 at MA25 ⊢
  generalize w5.heap.size = aq at MA25 HL26 ⊢
  have HAQ : Hid (aq < V6.heap.size) := MA25.out.2.2.2.2.2.lt
  have HV6 : Hid (w.heap.size ≤ V6.heap.size) := MA25.out.1.size
  go_loopw [10] (fun u wr => ∃ (k : Nat) (x : Int) (oa : Option Addr) (oc : Nat), k ≤ 200 ∧ u = .int .i64 x ∧ Hid (x = hvF v (fq : Int) fa fw (plB v L fq fw) k) ∧ Hid (plG (hvF v (fq : Int) fa fw (plB v L fq fw)) lg (plC v L fq fw) (200 - k) k = R) ∧ Hid (∀ i, i < k → plC v L fq fw i = 0) ∧ Hid (∀ i, i < k → hvF v (fq : Int) fa fw (plB v L fq fw) i < lg) ∧ Hid (Below w.heap.size w wr ∧ Box wr (w.heap.size) 40 #[.slice pa v.n pc, .slice ja v.m jc] ∧ Box wr (w.heap.size + 1) 30 #[.int .i64 (fq : Int), .int .i64 fa, .int .i64 fw] ∧ Box wr (w.heap.size + 1 + 1) 35 #[.bool false, .int .i64 0, .int .i64 0, .int .i64 0, .int .i64 0, .slice none 0 0] ∧ Box wr (tb) 33 #[.int .i64 (fq : Int), .int .i64 fa, .int .i64 fw, .int .i64 lg, .slice oa k oc] ∧ Box wr (aq) 74 #[.int .i64 ((plS v L fq fw k).1 : Int), .int .i64 (plS v L fq fw k).2] ∧ V6.heap.size ≤ wr.heap.size ∧ VOwn V6.heap.size 74 2 wr (.slice oa k oc) k (intF (plB v L fq fw)))) (fun u _ => (lg - intOf u).toNat)
  case atStart => exact ⟨0, _, none, 0, by omega, rfl, HX0, HR, fun i hi => absurd hi (Nat.not_lt_zero _), fun i hi => absurd hi (Nat.not_lt_zero _), ⟨MA25.out.1, MA25.out.2.1, MA25.out.2.2.1, MA25.out.2.2.2.1, MA25.out.2.2.2.2.1, MA25.out.2.2.2.2.2, (Nat.le_refl _), VOwn.nil _ _ _ _ _⟩⟩
  case round =>
    clear MA25
    obtain ⟨k, x, oa, oc, hk, rfl, HX, HG, HC, HLT, T⟩ := hrel
    obtain ⟨sp, HSP⟩ : ∃ q, Hid ((plS v L fq fw k).1 = q) := ⟨_, rfl⟩
    obtain ⟨wy, HWY⟩ : ∃ q, Hid ((plS v L fq fw k).2 = q) := ⟨_, rfl⟩
    have D : Hid (Below w.heap.size w wr ∧ Box wr (w.heap.size) 40 #[.slice pa v.n pc, .slice ja v.m jc] ∧ Box wr (w.heap.size + 1) 30 #[.int .i64 (fq : Int), .int .i64 fa, .int .i64 fw] ∧ Box wr (w.heap.size + 1 + 1) 35 #[.bool false, .int .i64 0, .int .i64 0, .int .i64 0, .int .i64 0, .slice none 0 0] ∧ Box wr (tb) 33 #[.int .i64 (fq : Int), .int .i64 fa, .int .i64 fw, .int .i64 lg, .slice oa k oc] ∧ Box wr (aq) 74 #[.int .i64 (sp : Int), .int .i64 wy] ∧ V6.heap.size ≤ wr.heap.size ∧ VOwn V6.heap.size 74 2 wr (.slice oa k oc) k (intF (plB v L fq fw))) := by have h9 := T.out; rw [HSP.out, HWY.out] at h9; exact h9
    clear T
    have hspn : sp < v.n := by rw [← HSP.out]; exact (plS_ok OK.out.1 OK.out.2.2 hfq hfw k HC.out).1
    have hswy : wy = 1 ∨ wy = -1 := by rw [← HWY.out]; exact (plS_ok OK.out.1 OK.out.2.2 hfq hfw k HC.out).2
    have hbd : 0 ≤ x ∧ x ≤ 3000000000 := by
      have h9 := hv_bnd OK.out.1 (B := plB v L fq fw) (fa := fa) HU2.out k (pl_step OK.out.1 OK.out.2.2 hfq hfw HC.out)
      rw [← HX.out] at h9
      omega
    by_cases hlt : x < lg
    · have HNL : Hid (¬ lg ≤ hvF v (fq : Int) fa fw (plB v L fq fw) k) := by rw [← HX.out]; show ¬ _; omega
      have hwn : IntKind.i64.wrap (-wy) = -wy := by rw [IntKind.wrap_i64]; omega
      obtain ⟨cd, HCD⟩ : ∃ cd, Hid ((exitAt v L sp (-wy)).2 = cd) := ⟨_, rfl⟩
      have HPC : Hid (plC v L fq fw k = cd) := by rw [← HCD.out, ← HSP.out, ← HWY.out]; rfl
      go_upto_region 7 with fail
      go_cut [12, 13, 14] from 46 to 59 (fun s12 s13 s14 wx => ∃ (eq : Nat) (a b z : Int), s12 = .pointer (some ⟨eq, 0, none⟩) ∧ s13 = .int .i64 cd ∧ s14 = .int .i64 z ∧ Hid (cd = 0 → a = (nextAt v L sp (-wy)).pc ∧ b = (nextAt v L sp (-wy)).sd) ∧ Hid (Below w.heap.size w wx ∧ Box wx (w.heap.size) 40 #[.slice pa v.n pc, .slice ja v.m jc] ∧ Box wx (w.heap.size + 1) 30 #[.int .i64 (fq : Int), .int .i64 fa, .int .i64 fw] ∧ Box wx (w.heap.size + 1 + 1) 35 #[.bool false, .int .i64 0, .int .i64 0, .int .i64 0, .int .i64 0, .slice none 0 0] ∧ Box wx (tb) 33 #[.int .i64 (fq : Int), .int .i64 fa, .int .i64 fw, .int .i64 lg, .slice oa k oc] ∧ Box wx (aq) 74 #[.int .i64 (sp : Int), .int .i64 wy] ∧ V6.heap.size ≤ wx.heap.size ∧ VOwn V6.heap.size 74 2 wx (.slice oa k oc) k (intF (plB v L fq fw)) ∧ Box wx (eq) 76 #[.int .i64 a, .int .i64 b]) ∧ Hid (w.heap.size ≤ eq))
      case first =>
        have a0 : wr.cell? ⟨w.heap.size, 0, none⟩ = some (.slice pa v.n pc) := D.out.2.1.cell 0
        have a1 : wr.cell? ⟨w.heap.size, 1, none⟩ = some (.slice ja v.m jc) := D.out.2.1.cell 1
        have b0 : wr.cell? ⟨aq, 0, none⟩ = some (.int .i64 (sp : Int)) := D.out.2.2.2.2.2.1.cell 0
        have b1 : wr.cell? ⟨aq, 1, none⟩ = some (.int .i64 wy) := D.out.2.2.2.2.2.1.cell 1
        go_wp2_with fail
        refine wp_region_held_drew (S := (fun wx : World => wx.cell? ⟨w.heap.size, 0, none⟩ = some (.slice pa v.n pc) ∧ wx.cell? ⟨w.heap.size, 1, none⟩ = some (.slice ja v.m jc) ∧ wx.cell? ⟨aq, 0, none⟩ = some (.int .i64 (sp : Int)) ∧ wx.cell? ⟨aq, 1, none⟩ = some (.int .i64 wy))) (by kernel_rfl) ?_ (fun hHeld => ?_)
        · exact ⟨a0, a1, b0, b1⟩
        have MD33 : Hid (Below w.heap.size w wr.drew ∧ Box wr.drew (w.heap.size) 40 #[.slice pa v.n pc, .slice ja v.m jc] ∧ Box wr.drew (w.heap.size + 1) 30 #[.int .i64 (fq : Int), .int .i64 fa, .int .i64 fw] ∧ Box wr.drew (w.heap.size + 1 + 1) 35 #[.bool false, .int .i64 0, .int .i64 0, .int .i64 0, .int .i64 0, .slice none 0 0] ∧ Box wr.drew (tb) 33 #[.int .i64 (fq : Int), .int .i64 fa, .int .i64 fw, .int .i64 lg, .slice oa k oc] ∧ Box wr.drew (aq) 74 #[.int .i64 (sp : Int), .int .i64 wy] ∧ V6.heap.size ≤ wr.drew.heap.size ∧ VOwn V6.heap.size 74 2 wr.drew (.slice oa k oc) k (intF (plB v L fq fw))) := ⟨D.out.1.drew, D.out.2.1.drew, D.out.2.2.1.drew, D.out.2.2.2.1.drew, D.out.2.2.2.2.1.drew, D.out.2.2.2.2.2.1.drew, D.out.2.2.2.2.2.2.1, D.out.2.2.2.2.2.2.2⟩
        clear a0 a1 b0 b1 D
        generalize wr.drew = VD at MD33 hHeld ⊢
        refine tk 0 ?_
        refine tk 1 ?_
        refine tk 2 ?_
        refine tk 3 ?_
        refine tk 4 ?_
        refine tk 5 ?_
        refine tk 6 ?_
        refine ready2_lit (i := 7) (j := 13) (by kernel_rfl) rfl rfl (fun K hK => ?_) (fun K hK => ?_)
        · go_simp
          refine (l12head79 (sp : Int) (-wy) _).mono ?_
          rintro e wh34 ⟨rfl, hb⟩
          have MA35 : Hid (Below w.heap.size w wh34 ∧ Box wh34 (w.heap.size) 40 #[.slice pa v.n pc, .slice ja v.m jc] ∧ Box wh34 (w.heap.size + 1) 30 #[.int .i64 (fq : Int), .int .i64 fa, .int .i64 fw] ∧ Box wh34 (w.heap.size + 1 + 1) 35 #[.bool false, .int .i64 0, .int .i64 0, .int .i64 0, .int .i64 0, .slice none 0 0] ∧ Box wh34 (tb) 33 #[.int .i64 (fq : Int), .int .i64 fa, .int .i64 fw, .int .i64 lg, .slice oa k oc] ∧ Box wh34 (aq) 74 #[.int .i64 (sp : Int), .int .i64 wy] ∧ V6.heap.size ≤ wh34.heap.size ∧ VOwn V6.heap.size 74 2 wh34 (.slice oa k oc) k (intF (plB v L fq fw))) := ⟨MD33.out.1.trans (hb.mono MD33.out.1.size), MD33.out.2.1.mono hb (Nat.le_refl _), MD33.out.2.2.1.mono hb (Nat.le_refl _), MD33.out.2.2.2.1.mono hb (Nat.le_refl _), MD33.out.2.2.2.2.1.mono hb (Nat.le_refl _), MD33.out.2.2.2.2.2.1.mono hb (Nat.le_refl _), Nat.le_trans MD33.out.2.2.2.2.2.2.1 hb.size, MD33.out.2.2.2.2.2.2.2.mono (Nat.le_refl _) hb (Nat.le_refl _)⟩
          clear hb MD33
          go_wp2_with fail
          refine hK.out _ _ ?_ (fun hHeld => ?_)
          · exact ⟨MA35.out.2.1.cell 0, MA35.out.2.1.cell 1, MA35.out.2.2.2.2.2.1.cell 0, MA35.out.2.2.2.2.2.1.cell 1⟩
          clear hK K
          refine ready2_lit (i := 8) (j := 13) (by kernel_rfl) rfl rfl (fun K hK => ?_) (fun K hK => ?_)
          · go_simp
            refine (over77 OK.out.1 pa pc ja jc sp (-wy) la lc L _ hspn (H.out.2.1.mono (Nat.le_refl _) MA35.out.1 (Nat.le_refl _)) (H.out.2.2.2.2.mono (Nat.le_refl _) MA35.out.1 (Nat.le_refl _)) OK.out.2.2).mono ?_
            rintro e wh36 ⟨a, b, z, he, hab, hb⟩
            have HAB : Hid (cd = 0 → a = (nextAt v L sp (-wy)).pc ∧ b = (nextAt v L sp (-wy)).sd) := by rw [HCD.out] at hab; exact hab
            rw [HCD.out] at he
            subst he
            clear hab
            have MA37 : Hid (Below w.heap.size w wh36 ∧ Box wh36 (w.heap.size) 40 #[.slice pa v.n pc, .slice ja v.m jc] ∧ Box wh36 (w.heap.size + 1) 30 #[.int .i64 (fq : Int), .int .i64 fa, .int .i64 fw] ∧ Box wh36 (w.heap.size + 1 + 1) 35 #[.bool false, .int .i64 0, .int .i64 0, .int .i64 0, .int .i64 0, .slice none 0 0] ∧ Box wh36 (tb) 33 #[.int .i64 (fq : Int), .int .i64 fa, .int .i64 fw, .int .i64 lg, .slice oa k oc] ∧ Box wh36 (aq) 74 #[.int .i64 (sp : Int), .int .i64 wy] ∧ V6.heap.size ≤ wh36.heap.size ∧ VOwn V6.heap.size 74 2 wh36 (.slice oa k oc) k (intF (plB v L fq fw))) := ⟨MA35.out.1.trans (hb.mono MA35.out.1.size), MA35.out.2.1.mono hb (Nat.le_refl _), MA35.out.2.2.1.mono hb (Nat.le_refl _), MA35.out.2.2.2.1.mono hb (Nat.le_refl _), MA35.out.2.2.2.2.1.mono hb (Nat.le_refl _), MA35.out.2.2.2.2.2.1.mono hb (Nat.le_refl _), Nat.le_trans MA35.out.2.2.2.2.2.2.1 hb.size, MA35.out.2.2.2.2.2.2.2.mono (Nat.le_refl _) hb (Nat.le_refl _)⟩
            clear hb MA35
            go_wp2_with fail
            refine hK.out _ _ ?_ (fun hHeld => ?_)
            · exact ⟨MA37.out.2.1.cell 0, MA37.out.2.1.cell 1, MA37.out.2.2.2.2.2.1.cell 0, MA37.out.2.2.2.2.2.1.cell 1⟩
            clear hK K
            refine tk 9 ?_
            refine tk 10 ?_
            refine tk 11 ?_
            refine tk 12 ?_
            refine rl 13 fun K hK => ?_
            have MA39 : Hid (Below w.heap.size w (wh36.alloc (.cells #[.int .i64 0, .int .i64 0] 76)) ∧ Box (wh36.alloc (.cells #[.int .i64 0, .int .i64 0] 76)) (w.heap.size) 40 #[.slice pa v.n pc, .slice ja v.m jc] ∧ Box (wh36.alloc (.cells #[.int .i64 0, .int .i64 0] 76)) (w.heap.size + 1) 30 #[.int .i64 (fq : Int), .int .i64 fa, .int .i64 fw] ∧ Box (wh36.alloc (.cells #[.int .i64 0, .int .i64 0] 76)) (w.heap.size + 1 + 1) 35 #[.bool false, .int .i64 0, .int .i64 0, .int .i64 0, .int .i64 0, .slice none 0 0] ∧ Box (wh36.alloc (.cells #[.int .i64 0, .int .i64 0] 76)) (tb) 33 #[.int .i64 (fq : Int), .int .i64 fa, .int .i64 fw, .int .i64 lg, .slice oa k oc] ∧ Box (wh36.alloc (.cells #[.int .i64 0, .int .i64 0] 76)) (aq) 74 #[.int .i64 (sp : Int), .int .i64 wy] ∧ V6.heap.size ≤ (wh36.alloc (.cells #[.int .i64 0, .int .i64 0] 76)).heap.size ∧ VOwn V6.heap.size 74 2 (wh36.alloc (.cells #[.int .i64 0, .int .i64 0] 76)) (.slice oa k oc) k (intF (plB v L fq fw)) ∧ Box (wh36.alloc (.cells #[.int .i64 0, .int .i64 0] 76)) (wh36.heap.size) 76 #[.int .i64 0, .int .i64 0]) := ⟨MA37.out.1.alloc MA37.out.1.size _, MA37.out.2.1.alloc _, MA37.out.2.2.1.alloc _, MA37.out.2.2.2.1.alloc _, MA37.out.2.2.2.2.1.alloc _, MA37.out.2.2.2.2.2.1.alloc _, Nat.le_trans MA37.out.2.2.2.2.2.2.1 (bel1 _ _).size, MA37.out.2.2.2.2.2.2.2.alloc _, Box.new _ _ _⟩
            have HL40 : Hid (w.heap.size ≤ wh36.heap.size) := MA37.out.1.size
            clear MA37
            go_simp
            refine hK.out _ _ ?_ (fun hHeld => ?_)
            · exact ⟨MA39.out.2.1.cell 0, MA39.out.2.1.cell 1, MA39.out.2.2.2.2.2.1.cell 0, MA39.out.2.2.2.2.2.1.cell 1⟩
            clear hK K
            clear hHeld
            generalize wh36.alloc (.cells #[.int .i64 0, .int .i64 0] 76) = V38 at MA39 ⊢
            generalize wh36.heap.size = eq at MA39 HL40 ⊢
            have z0 : V38.cell? ⟨eq, 0, none⟩ = some (.int .i64 0) := MA39.out.2.2.2.2.2.2.2.2.cell 0
            have z1 : V38.cell? ⟨eq, 1, none⟩ = some (.int .i64 0) := MA39.out.2.2.2.2.2.2.2.2.cell 1
            have zf0 := MA39.out.2.2.2.2.2.2.2.2.free 0
            have zf1 := MA39.out.2.2.2.2.2.2.2.2.free 1
            have MA41 : Hid (Below w.heap.size w ((V38.setCell ⟨eq, 0, none⟩ (.int .i64 a)).setCell ⟨eq, 1, none⟩ (.int .i64 b)) ∧ Box ((V38.setCell ⟨eq, 0, none⟩ (.int .i64 a)).setCell ⟨eq, 1, none⟩ (.int .i64 b)) (w.heap.size) 40 #[.slice pa v.n pc, .slice ja v.m jc] ∧ Box ((V38.setCell ⟨eq, 0, none⟩ (.int .i64 a)).setCell ⟨eq, 1, none⟩ (.int .i64 b)) (w.heap.size + 1) 30 #[.int .i64 (fq : Int), .int .i64 fa, .int .i64 fw] ∧ Box ((V38.setCell ⟨eq, 0, none⟩ (.int .i64 a)).setCell ⟨eq, 1, none⟩ (.int .i64 b)) (w.heap.size + 1 + 1) 35 #[.bool false, .int .i64 0, .int .i64 0, .int .i64 0, .int .i64 0, .slice none 0 0] ∧ Box ((V38.setCell ⟨eq, 0, none⟩ (.int .i64 a)).setCell ⟨eq, 1, none⟩ (.int .i64 b)) (tb) 33 #[.int .i64 (fq : Int), .int .i64 fa, .int .i64 fw, .int .i64 lg, .slice oa k oc] ∧ Box ((V38.setCell ⟨eq, 0, none⟩ (.int .i64 a)).setCell ⟨eq, 1, none⟩ (.int .i64 b)) (aq) 74 #[.int .i64 (sp : Int), .int .i64 wy] ∧ V6.heap.size ≤ ((V38.setCell ⟨eq, 0, none⟩ (.int .i64 a)).setCell ⟨eq, 1, none⟩ (.int .i64 b)).heap.size ∧ VOwn V6.heap.size 74 2 ((V38.setCell ⟨eq, 0, none⟩ (.int .i64 a)).setCell ⟨eq, 1, none⟩ (.int .i64 b)) (.slice oa k oc) k (intF (plB v L fq fw)) ∧ Box ((V38.setCell ⟨eq, 0, none⟩ (.int .i64 a)).setCell ⟨eq, 1, none⟩ (.int .i64 b)) (eq) 76 #[.int .i64 a, .int .i64 b]) := ⟨((MA39.out.1.setCell HL40.out _).setCell HL40.out _), ((MA39.out.2.1.other (box_ne MA39.out.2.1 MA39.out.2.2.2.2.2.2.2.2 (by decide)) _).other (box_ne MA39.out.2.1 MA39.out.2.2.2.2.2.2.2.2 (by decide)) _), ((MA39.out.2.2.1.other (box_ne MA39.out.2.2.1 MA39.out.2.2.2.2.2.2.2.2 (by decide)) _).other (box_ne MA39.out.2.2.1 MA39.out.2.2.2.2.2.2.2.2 (by decide)) _), ((MA39.out.2.2.2.1.other (box_ne MA39.out.2.2.2.1 MA39.out.2.2.2.2.2.2.2.2 (by decide)) _).other (box_ne MA39.out.2.2.2.1 MA39.out.2.2.2.2.2.2.2.2 (by decide)) _), ((MA39.out.2.2.2.2.1.other (box_ne MA39.out.2.2.2.2.1 MA39.out.2.2.2.2.2.2.2.2 (by decide)) _).other (box_ne MA39.out.2.2.2.2.1 MA39.out.2.2.2.2.2.2.2.2 (by decide)) _), ((MA39.out.2.2.2.2.2.1.other (box_ne MA39.out.2.2.2.2.2.1 MA39.out.2.2.2.2.2.2.2.2 (by decide)) _).other (box_ne MA39.out.2.2.2.2.2.1 MA39.out.2.2.2.2.2.2.2.2 (by decide)) _), (Nat.le_trans (Nat.le_trans MA39.out.2.2.2.2.2.2.1 (Nat.le_of_eq (size_setc _ _ _).symm)) (Nat.le_of_eq (size_setc _ _ _).symm)), ((MA39.out.2.2.2.2.2.2.2.1.set MA39.out.2.2.2.2.2.2.2.2 (by decide) 0 _).set (MA39.out.2.2.2.2.2.2.2.2.set 0 (.int .i64 a)) (by decide) 1 _), by have h9 := ((MA39.out.2.2.2.2.2.2.2.2.set 0 (.int .i64 a)).set 1 (.int .i64 b)); exact h9⟩
            clear MA39
            refine rl 14 fun K hK => ?_
            go_simp
            refine hK.out _ _ ?_ (fun hHeld => ?_)
            · exact ⟨MA41.out.2.1.cell 0, MA41.out.2.1.cell 1, MA41.out.2.2.2.2.2.1.cell 0, MA41.out.2.2.2.2.2.1.cell 1⟩
            clear hK K
            refine tk 15 ?_
            refine tk 16 ?_
            refine wpAnyH_done (by kernel_rfl) ?_ _
            clear z0 z1 zf0 zf1 hHeld
            generalize ((V38.setCell ⟨eq, 0, none⟩ (.int .i64 a)).setCell ⟨eq, 1, none⟩ (.int .i64 b)) = W42 at MA41 ⊢
            go_wp2_with fail
            go_meet
            case rel => exact ⟨eq, a, b, z, rfl, rfl, rfl, HAB, MA41, HL40⟩
          · have MA44 : Hid (Below w.heap.size w (wh34.alloc (.cells #[.int .i64 0, .int .i64 0] 76)) ∧ Box (wh34.alloc (.cells #[.int .i64 0, .int .i64 0] 76)) (w.heap.size) 40 #[.slice pa v.n pc, .slice ja v.m jc] ∧ Box (wh34.alloc (.cells #[.int .i64 0, .int .i64 0] 76)) (w.heap.size + 1) 30 #[.int .i64 (fq : Int), .int .i64 fa, .int .i64 fw] ∧ Box (wh34.alloc (.cells #[.int .i64 0, .int .i64 0] 76)) (w.heap.size + 1 + 1) 35 #[.bool false, .int .i64 0, .int .i64 0, .int .i64 0, .int .i64 0, .slice none 0 0] ∧ Box (wh34.alloc (.cells #[.int .i64 0, .int .i64 0] 76)) (tb) 33 #[.int .i64 (fq : Int), .int .i64 fa, .int .i64 fw, .int .i64 lg, .slice oa k oc] ∧ Box (wh34.alloc (.cells #[.int .i64 0, .int .i64 0] 76)) (aq) 74 #[.int .i64 (sp : Int), .int .i64 wy] ∧ V6.heap.size ≤ (wh34.alloc (.cells #[.int .i64 0, .int .i64 0] 76)).heap.size ∧ VOwn V6.heap.size 74 2 (wh34.alloc (.cells #[.int .i64 0, .int .i64 0] 76)) (.slice oa k oc) k (intF (plB v L fq fw)) ∧ Box (wh34.alloc (.cells #[.int .i64 0, .int .i64 0] 76)) (wh34.heap.size) 76 #[.int .i64 0, .int .i64 0]) := ⟨MA35.out.1.alloc MA35.out.1.size _, MA35.out.2.1.alloc _, MA35.out.2.2.1.alloc _, MA35.out.2.2.2.1.alloc _, MA35.out.2.2.2.2.1.alloc _, MA35.out.2.2.2.2.2.1.alloc _, Nat.le_trans MA35.out.2.2.2.2.2.2.1 (bel1 _ _).size, MA35.out.2.2.2.2.2.2.2.alloc _, Box.new _ _ _⟩
            have HL45 : Hid (w.heap.size ≤ wh34.heap.size) := MA35.out.1.size
            clear MA35
            go_simp
            refine hK.out _ _ ?_ (fun hHeld => ?_)
            · exact ⟨MA44.out.2.1.cell 0, MA44.out.2.1.cell 1, MA44.out.2.2.2.2.2.1.cell 0, MA44.out.2.2.2.2.2.1.cell 1⟩
            clear hK K
            clear hHeld
            generalize wh34.alloc (.cells #[.int .i64 0, .int .i64 0] 76) = V43 at MA44 ⊢
            generalize wh34.heap.size = eq at MA44 HL45 ⊢
            refine rl 8 fun K hK => ?_
            go_simp
            refine (over77 OK.out.1 pa pc ja jc sp (-wy) la lc L _ hspn (H.out.2.1.mono (Nat.le_refl _) MA44.out.1 (Nat.le_refl _)) (H.out.2.2.2.2.mono (Nat.le_refl _) MA44.out.1 (Nat.le_refl _)) OK.out.2.2).mono ?_
            rintro e wh46 ⟨a, b, z, he, hab, hb⟩
            have HAB : Hid (cd = 0 → a = (nextAt v L sp (-wy)).pc ∧ b = (nextAt v L sp (-wy)).sd) := by rw [HCD.out] at hab; exact hab
            rw [HCD.out] at he
            subst he
            clear hab
            have MA47 : Hid (Below w.heap.size w wh46 ∧ Box wh46 (w.heap.size) 40 #[.slice pa v.n pc, .slice ja v.m jc] ∧ Box wh46 (w.heap.size + 1) 30 #[.int .i64 (fq : Int), .int .i64 fa, .int .i64 fw] ∧ Box wh46 (w.heap.size + 1 + 1) 35 #[.bool false, .int .i64 0, .int .i64 0, .int .i64 0, .int .i64 0, .slice none 0 0] ∧ Box wh46 (tb) 33 #[.int .i64 (fq : Int), .int .i64 fa, .int .i64 fw, .int .i64 lg, .slice oa k oc] ∧ Box wh46 (aq) 74 #[.int .i64 (sp : Int), .int .i64 wy] ∧ V6.heap.size ≤ wh46.heap.size ∧ VOwn V6.heap.size 74 2 wh46 (.slice oa k oc) k (intF (plB v L fq fw)) ∧ Box wh46 (eq) 76 #[.int .i64 0, .int .i64 0]) := ⟨MA44.out.1.trans (hb.mono MA44.out.1.size), MA44.out.2.1.mono hb (Nat.le_refl _), MA44.out.2.2.1.mono hb (Nat.le_refl _), MA44.out.2.2.2.1.mono hb (Nat.le_refl _), MA44.out.2.2.2.2.1.mono hb (Nat.le_refl _), MA44.out.2.2.2.2.2.1.mono hb (Nat.le_refl _), Nat.le_trans MA44.out.2.2.2.2.2.2.1 hb.size, MA44.out.2.2.2.2.2.2.2.1.mono (Nat.le_refl _) hb (Nat.le_refl _), MA44.out.2.2.2.2.2.2.2.2.mono hb (Nat.le_refl _)⟩
            clear hb MA44
            go_wp2_with fail
            refine hK.out _ _ ?_ (fun hHeld => ?_)
            · exact ⟨MA47.out.2.1.cell 0, MA47.out.2.1.cell 1, MA47.out.2.2.2.2.2.1.cell 0, MA47.out.2.2.2.2.2.1.cell 1⟩
            clear hK K
            refine tk 9 ?_
            refine tk 10 ?_
            refine tk 11 ?_
            refine tk 12 ?_
            have z0 : wh46.cell? ⟨eq, 0, none⟩ = some (.int .i64 0) := MA47.out.2.2.2.2.2.2.2.2.cell 0
            have z1 : wh46.cell? ⟨eq, 1, none⟩ = some (.int .i64 0) := MA47.out.2.2.2.2.2.2.2.2.cell 1
            have zf0 := MA47.out.2.2.2.2.2.2.2.2.free 0
            have zf1 := MA47.out.2.2.2.2.2.2.2.2.free 1
            have MA48 : Hid (Below w.heap.size w ((wh46.setCell ⟨eq, 0, none⟩ (.int .i64 a)).setCell ⟨eq, 1, none⟩ (.int .i64 b)) ∧ Box ((wh46.setCell ⟨eq, 0, none⟩ (.int .i64 a)).setCell ⟨eq, 1, none⟩ (.int .i64 b)) (w.heap.size) 40 #[.slice pa v.n pc, .slice ja v.m jc] ∧ Box ((wh46.setCell ⟨eq, 0, none⟩ (.int .i64 a)).setCell ⟨eq, 1, none⟩ (.int .i64 b)) (w.heap.size + 1) 30 #[.int .i64 (fq : Int), .int .i64 fa, .int .i64 fw] ∧ Box ((wh46.setCell ⟨eq, 0, none⟩ (.int .i64 a)).setCell ⟨eq, 1, none⟩ (.int .i64 b)) (w.heap.size + 1 + 1) 35 #[.bool false, .int .i64 0, .int .i64 0, .int .i64 0, .int .i64 0, .slice none 0 0] ∧ Box ((wh46.setCell ⟨eq, 0, none⟩ (.int .i64 a)).setCell ⟨eq, 1, none⟩ (.int .i64 b)) (tb) 33 #[.int .i64 (fq : Int), .int .i64 fa, .int .i64 fw, .int .i64 lg, .slice oa k oc] ∧ Box ((wh46.setCell ⟨eq, 0, none⟩ (.int .i64 a)).setCell ⟨eq, 1, none⟩ (.int .i64 b)) (aq) 74 #[.int .i64 (sp : Int), .int .i64 wy] ∧ V6.heap.size ≤ ((wh46.setCell ⟨eq, 0, none⟩ (.int .i64 a)).setCell ⟨eq, 1, none⟩ (.int .i64 b)).heap.size ∧ VOwn V6.heap.size 74 2 ((wh46.setCell ⟨eq, 0, none⟩ (.int .i64 a)).setCell ⟨eq, 1, none⟩ (.int .i64 b)) (.slice oa k oc) k (intF (plB v L fq fw)) ∧ Box ((wh46.setCell ⟨eq, 0, none⟩ (.int .i64 a)).setCell ⟨eq, 1, none⟩ (.int .i64 b)) (eq) 76 #[.int .i64 a, .int .i64 b]) := ⟨((MA47.out.1.setCell HL45.out _).setCell HL45.out _), ((MA47.out.2.1.other (box_ne MA47.out.2.1 MA47.out.2.2.2.2.2.2.2.2 (by decide)) _).other (box_ne MA47.out.2.1 MA47.out.2.2.2.2.2.2.2.2 (by decide)) _), ((MA47.out.2.2.1.other (box_ne MA47.out.2.2.1 MA47.out.2.2.2.2.2.2.2.2 (by decide)) _).other (box_ne MA47.out.2.2.1 MA47.out.2.2.2.2.2.2.2.2 (by decide)) _), ((MA47.out.2.2.2.1.other (box_ne MA47.out.2.2.2.1 MA47.out.2.2.2.2.2.2.2.2 (by decide)) _).other (box_ne MA47.out.2.2.2.1 MA47.out.2.2.2.2.2.2.2.2 (by decide)) _), ((MA47.out.2.2.2.2.1.other (box_ne MA47.out.2.2.2.2.1 MA47.out.2.2.2.2.2.2.2.2 (by decide)) _).other (box_ne MA47.out.2.2.2.2.1 MA47.out.2.2.2.2.2.2.2.2 (by decide)) _), ((MA47.out.2.2.2.2.2.1.other (box_ne MA47.out.2.2.2.2.2.1 MA47.out.2.2.2.2.2.2.2.2 (by decide)) _).other (box_ne MA47.out.2.2.2.2.2.1 MA47.out.2.2.2.2.2.2.2.2 (by decide)) _), (Nat.le_trans (Nat.le_trans MA47.out.2.2.2.2.2.2.1 (Nat.le_of_eq (size_setc _ _ _).symm)) (Nat.le_of_eq (size_setc _ _ _).symm)), ((MA47.out.2.2.2.2.2.2.2.1.set MA47.out.2.2.2.2.2.2.2.2 (by decide) 0 _).set (MA47.out.2.2.2.2.2.2.2.2.set 0 (.int .i64 a)) (by decide) 1 _), by have h9 := ((MA47.out.2.2.2.2.2.2.2.2.set 0 (.int .i64 a)).set 1 (.int .i64 b)); exact h9⟩
            clear MA47
            refine rl 14 fun K hK => ?_
            go_simp
            refine hK.out _ _ ?_ (fun hHeld => ?_)
            · exact ⟨MA48.out.2.1.cell 0, MA48.out.2.1.cell 1, MA48.out.2.2.2.2.2.1.cell 0, MA48.out.2.2.2.2.2.1.cell 1⟩
            clear hK K
            refine tk 15 ?_
            refine tk 16 ?_
            refine wpAnyH_done (by kernel_rfl) ?_ _
            clear z0 z1 zf0 zf1 hHeld
            generalize ((wh46.setCell ⟨eq, 0, none⟩ (.int .i64 a)).setCell ⟨eq, 1, none⟩ (.int .i64 b)) = W49 at MA48 ⊢
            go_wp2_with fail
            go_meet
            case rel => exact ⟨eq, a, b, z, rfl, rfl, rfl, HAB, MA48, HL45⟩
        · have MA51 : Hid (Below w.heap.size w (VD.alloc (.cells #[.int .i64 0, .int .i64 0] 76)) ∧ Box (VD.alloc (.cells #[.int .i64 0, .int .i64 0] 76)) (w.heap.size) 40 #[.slice pa v.n pc, .slice ja v.m jc] ∧ Box (VD.alloc (.cells #[.int .i64 0, .int .i64 0] 76)) (w.heap.size + 1) 30 #[.int .i64 (fq : Int), .int .i64 fa, .int .i64 fw] ∧ Box (VD.alloc (.cells #[.int .i64 0, .int .i64 0] 76)) (w.heap.size + 1 + 1) 35 #[.bool false, .int .i64 0, .int .i64 0, .int .i64 0, .int .i64 0, .slice none 0 0] ∧ Box (VD.alloc (.cells #[.int .i64 0, .int .i64 0] 76)) (tb) 33 #[.int .i64 (fq : Int), .int .i64 fa, .int .i64 fw, .int .i64 lg, .slice oa k oc] ∧ Box (VD.alloc (.cells #[.int .i64 0, .int .i64 0] 76)) (aq) 74 #[.int .i64 (sp : Int), .int .i64 wy] ∧ V6.heap.size ≤ (VD.alloc (.cells #[.int .i64 0, .int .i64 0] 76)).heap.size ∧ VOwn V6.heap.size 74 2 (VD.alloc (.cells #[.int .i64 0, .int .i64 0] 76)) (.slice oa k oc) k (intF (plB v L fq fw)) ∧ Box (VD.alloc (.cells #[.int .i64 0, .int .i64 0] 76)) (VD.heap.size) 76 #[.int .i64 0, .int .i64 0]) := ⟨MD33.out.1.alloc MD33.out.1.size _, MD33.out.2.1.alloc _, MD33.out.2.2.1.alloc _, MD33.out.2.2.2.1.alloc _, MD33.out.2.2.2.2.1.alloc _, MD33.out.2.2.2.2.2.1.alloc _, Nat.le_trans MD33.out.2.2.2.2.2.2.1 (bel1 _ _).size, MD33.out.2.2.2.2.2.2.2.alloc _, Box.new _ _ _⟩
          have HL52 : Hid (w.heap.size ≤ VD.heap.size) := MD33.out.1.size
          clear MD33
          go_simp
          refine hK.out _ _ ?_ (fun hHeld => ?_)
          · exact ⟨MA51.out.2.1.cell 0, MA51.out.2.1.cell 1, MA51.out.2.2.2.2.2.1.cell 0, MA51.out.2.2.2.2.2.1.cell 1⟩
          clear hK K
          clear hHeld
          generalize VD.alloc (.cells #[.int .i64 0, .int .i64 0] 76) = V50 at MA51 ⊢
          generalize VD.heap.size = eq at MA51 HL52 ⊢
          refine rl 7 fun K hK => ?_
          go_simp
          refine (l12head79 (sp : Int) (-wy) _).mono ?_
          rintro e wh53 ⟨rfl, hb⟩
          have MA54 : Hid (Below w.heap.size w wh53 ∧ Box wh53 (w.heap.size) 40 #[.slice pa v.n pc, .slice ja v.m jc] ∧ Box wh53 (w.heap.size + 1) 30 #[.int .i64 (fq : Int), .int .i64 fa, .int .i64 fw] ∧ Box wh53 (w.heap.size + 1 + 1) 35 #[.bool false, .int .i64 0, .int .i64 0, .int .i64 0, .int .i64 0, .slice none 0 0] ∧ Box wh53 (tb) 33 #[.int .i64 (fq : Int), .int .i64 fa, .int .i64 fw, .int .i64 lg, .slice oa k oc] ∧ Box wh53 (aq) 74 #[.int .i64 (sp : Int), .int .i64 wy] ∧ V6.heap.size ≤ wh53.heap.size ∧ VOwn V6.heap.size 74 2 wh53 (.slice oa k oc) k (intF (plB v L fq fw)) ∧ Box wh53 (eq) 76 #[.int .i64 0, .int .i64 0]) := ⟨MA51.out.1.trans (hb.mono MA51.out.1.size), MA51.out.2.1.mono hb (Nat.le_refl _), MA51.out.2.2.1.mono hb (Nat.le_refl _), MA51.out.2.2.2.1.mono hb (Nat.le_refl _), MA51.out.2.2.2.2.1.mono hb (Nat.le_refl _), MA51.out.2.2.2.2.2.1.mono hb (Nat.le_refl _), Nat.le_trans MA51.out.2.2.2.2.2.2.1 hb.size, MA51.out.2.2.2.2.2.2.2.1.mono (Nat.le_refl _) hb (Nat.le_refl _), MA51.out.2.2.2.2.2.2.2.2.mono hb (Nat.le_refl _)⟩
          clear hb MA51
          go_wp2_with fail
          refine hK.out _ _ ?_ (fun hHeld => ?_)
          · exact ⟨MA54.out.2.1.cell 0, MA54.out.2.1.cell 1, MA54.out.2.2.2.2.2.1.cell 0, MA54.out.2.2.2.2.2.1.cell 1⟩
          clear hK K
          refine rl 8 fun K hK => ?_
          go_simp
          refine (over77 OK.out.1 pa pc ja jc sp (-wy) la lc L _ hspn (H.out.2.1.mono (Nat.le_refl _) MA54.out.1 (Nat.le_refl _)) (H.out.2.2.2.2.mono (Nat.le_refl _) MA54.out.1 (Nat.le_refl _)) OK.out.2.2).mono ?_
          rintro e wh55 ⟨a, b, z, he, hab, hb⟩
          have HAB : Hid (cd = 0 → a = (nextAt v L sp (-wy)).pc ∧ b = (nextAt v L sp (-wy)).sd) := by rw [HCD.out] at hab; exact hab
          rw [HCD.out] at he
          subst he
          clear hab
          have MA56 : Hid (Below w.heap.size w wh55 ∧ Box wh55 (w.heap.size) 40 #[.slice pa v.n pc, .slice ja v.m jc] ∧ Box wh55 (w.heap.size + 1) 30 #[.int .i64 (fq : Int), .int .i64 fa, .int .i64 fw] ∧ Box wh55 (w.heap.size + 1 + 1) 35 #[.bool false, .int .i64 0, .int .i64 0, .int .i64 0, .int .i64 0, .slice none 0 0] ∧ Box wh55 (tb) 33 #[.int .i64 (fq : Int), .int .i64 fa, .int .i64 fw, .int .i64 lg, .slice oa k oc] ∧ Box wh55 (aq) 74 #[.int .i64 (sp : Int), .int .i64 wy] ∧ V6.heap.size ≤ wh55.heap.size ∧ VOwn V6.heap.size 74 2 wh55 (.slice oa k oc) k (intF (plB v L fq fw)) ∧ Box wh55 (eq) 76 #[.int .i64 0, .int .i64 0]) := ⟨MA54.out.1.trans (hb.mono MA54.out.1.size), MA54.out.2.1.mono hb (Nat.le_refl _), MA54.out.2.2.1.mono hb (Nat.le_refl _), MA54.out.2.2.2.1.mono hb (Nat.le_refl _), MA54.out.2.2.2.2.1.mono hb (Nat.le_refl _), MA54.out.2.2.2.2.2.1.mono hb (Nat.le_refl _), Nat.le_trans MA54.out.2.2.2.2.2.2.1 hb.size, MA54.out.2.2.2.2.2.2.2.1.mono (Nat.le_refl _) hb (Nat.le_refl _), MA54.out.2.2.2.2.2.2.2.2.mono hb (Nat.le_refl _)⟩
          clear hb MA54
          go_wp2_with fail
          refine hK.out _ _ ?_ (fun hHeld => ?_)
          · exact ⟨MA56.out.2.1.cell 0, MA56.out.2.1.cell 1, MA56.out.2.2.2.2.2.1.cell 0, MA56.out.2.2.2.2.2.1.cell 1⟩
          clear hK K
          refine tk 9 ?_
          refine tk 10 ?_
          refine tk 11 ?_
          refine tk 12 ?_
          have z0 : wh55.cell? ⟨eq, 0, none⟩ = some (.int .i64 0) := MA56.out.2.2.2.2.2.2.2.2.cell 0
          have z1 : wh55.cell? ⟨eq, 1, none⟩ = some (.int .i64 0) := MA56.out.2.2.2.2.2.2.2.2.cell 1
          have zf0 := MA56.out.2.2.2.2.2.2.2.2.free 0
          have zf1 := MA56.out.2.2.2.2.2.2.2.2.free 1
          have MA57 : Hid (Below w.heap.size w ((wh55.setCell ⟨eq, 0, none⟩ (.int .i64 a)).setCell ⟨eq, 1, none⟩ (.int .i64 b)) ∧ Box ((wh55.setCell ⟨eq, 0, none⟩ (.int .i64 a)).setCell ⟨eq, 1, none⟩ (.int .i64 b)) (w.heap.size) 40 #[.slice pa v.n pc, .slice ja v.m jc] ∧ Box ((wh55.setCell ⟨eq, 0, none⟩ (.int .i64 a)).setCell ⟨eq, 1, none⟩ (.int .i64 b)) (w.heap.size + 1) 30 #[.int .i64 (fq : Int), .int .i64 fa, .int .i64 fw] ∧ Box ((wh55.setCell ⟨eq, 0, none⟩ (.int .i64 a)).setCell ⟨eq, 1, none⟩ (.int .i64 b)) (w.heap.size + 1 + 1) 35 #[.bool false, .int .i64 0, .int .i64 0, .int .i64 0, .int .i64 0, .slice none 0 0] ∧ Box ((wh55.setCell ⟨eq, 0, none⟩ (.int .i64 a)).setCell ⟨eq, 1, none⟩ (.int .i64 b)) (tb) 33 #[.int .i64 (fq : Int), .int .i64 fa, .int .i64 fw, .int .i64 lg, .slice oa k oc] ∧ Box ((wh55.setCell ⟨eq, 0, none⟩ (.int .i64 a)).setCell ⟨eq, 1, none⟩ (.int .i64 b)) (aq) 74 #[.int .i64 (sp : Int), .int .i64 wy] ∧ V6.heap.size ≤ ((wh55.setCell ⟨eq, 0, none⟩ (.int .i64 a)).setCell ⟨eq, 1, none⟩ (.int .i64 b)).heap.size ∧ VOwn V6.heap.size 74 2 ((wh55.setCell ⟨eq, 0, none⟩ (.int .i64 a)).setCell ⟨eq, 1, none⟩ (.int .i64 b)) (.slice oa k oc) k (intF (plB v L fq fw)) ∧ Box ((wh55.setCell ⟨eq, 0, none⟩ (.int .i64 a)).setCell ⟨eq, 1, none⟩ (.int .i64 b)) (eq) 76 #[.int .i64 a, .int .i64 b]) := ⟨((MA56.out.1.setCell HL52.out _).setCell HL52.out _), ((MA56.out.2.1.other (box_ne MA56.out.2.1 MA56.out.2.2.2.2.2.2.2.2 (by decide)) _).other (box_ne MA56.out.2.1 MA56.out.2.2.2.2.2.2.2.2 (by decide)) _), ((MA56.out.2.2.1.other (box_ne MA56.out.2.2.1 MA56.out.2.2.2.2.2.2.2.2 (by decide)) _).other (box_ne MA56.out.2.2.1 MA56.out.2.2.2.2.2.2.2.2 (by decide)) _), ((MA56.out.2.2.2.1.other (box_ne MA56.out.2.2.2.1 MA56.out.2.2.2.2.2.2.2.2 (by decide)) _).other (box_ne MA56.out.2.2.2.1 MA56.out.2.2.2.2.2.2.2.2 (by decide)) _), ((MA56.out.2.2.2.2.1.other (box_ne MA56.out.2.2.2.2.1 MA56.out.2.2.2.2.2.2.2.2 (by decide)) _).other (box_ne MA56.out.2.2.2.2.1 MA56.out.2.2.2.2.2.2.2.2 (by decide)) _), ((MA56.out.2.2.2.2.2.1.other (box_ne MA56.out.2.2.2.2.2.1 MA56.out.2.2.2.2.2.2.2.2 (by decide)) _).other (box_ne MA56.out.2.2.2.2.2.1 MA56.out.2.2.2.2.2.2.2.2 (by decide)) _), (Nat.le_trans (Nat.le_trans MA56.out.2.2.2.2.2.2.1 (Nat.le_of_eq (size_setc _ _ _).symm)) (Nat.le_of_eq (size_setc _ _ _).symm)), ((MA56.out.2.2.2.2.2.2.2.1.set MA56.out.2.2.2.2.2.2.2.2 (by decide) 0 _).set (MA56.out.2.2.2.2.2.2.2.2.set 0 (.int .i64 a)) (by decide) 1 _), by have h9 := ((MA56.out.2.2.2.2.2.2.2.2.set 0 (.int .i64 a)).set 1 (.int .i64 b)); exact h9⟩
          clear MA56
          refine rl 14 fun K hK => ?_
          go_simp
          refine hK.out _ _ ?_ (fun hHeld => ?_)
          · exact ⟨MA57.out.2.1.cell 0, MA57.out.2.1.cell 1, MA57.out.2.2.2.2.2.1.cell 0, MA57.out.2.2.2.2.2.1.cell 1⟩
          clear hK K
          refine tk 15 ?_
          refine tk 16 ?_
          refine wpAnyH_done (by kernel_rfl) ?_ _
          clear z0 z1 zf0 zf1 hHeld
          generalize ((wh55.setCell ⟨eq, 0, none⟩ (.int .i64 a)).setCell ⟨eq, 1, none⟩ (.int .i64 b)) = W58 at MA57 ⊢
          go_wp2_with fail
          go_meet
          case rel => exact ⟨eq, a, b, z, rfl, rfl, rfl, HAB, MA57, HL52⟩
      case rest =>
        obtain ⟨eq, a, b, z, rfl, rfl, rfl, HAB, E, HEQ⟩ := hcut
        clear D
        generalize wc = W8 at E ⊢
        by_cases hcd : cd = 0
        · by_cases hkk : k = 200
          · subst hcd
            have hk200 : ((k : Int) == 200) = true := by simp; omega
            have t0 : W8.cell? ⟨tb, 0, none⟩ = some (.int .i64 (fq : Int)) := E.out.2.2.2.2.1.cell 0
            have t1 : W8.cell? ⟨tb, 1, none⟩ = some (.int .i64 fa) := E.out.2.2.2.2.1.cell 1
            have t2 : W8.cell? ⟨tb, 2, none⟩ = some (.int .i64 fw) := E.out.2.2.2.2.1.cell 2
            have t3 : W8.cell? ⟨tb, 3, none⟩ = some (.int .i64 lg) := E.out.2.2.2.2.1.cell 3
            have t4 : W8.cell? ⟨tb, 4, none⟩ = some (.slice oa k oc) := E.out.2.2.2.2.1.cell 4
            have HN : Hid (plO v v.m L (fq : Int) fa fw lg = none) := HO.out.trans (HG.out.symm.trans (plG_no (by have := HNL.out; omega) (Or.inr (by omega))))
            have z0 : W8.cell? ⟨w.heap.size + 1 + 1, 0, none⟩ = some (.bool false) := E.out.2.2.2.1.cell 0
            have z1 : W8.cell? ⟨w.heap.size + 1 + 1, 1, none⟩ = some (.int .i64 0) := E.out.2.2.2.1.cell 1
            have z2 : W8.cell? ⟨w.heap.size + 1 + 1, 2, none⟩ = some (.int .i64 0) := E.out.2.2.2.1.cell 2
            have z3 : W8.cell? ⟨w.heap.size + 1 + 1, 3, none⟩ = some (.int .i64 0) := E.out.2.2.2.1.cell 3
            have z4 : W8.cell? ⟨w.heap.size + 1 + 1, 4, none⟩ = some (.int .i64 0) := E.out.2.2.2.1.cell 4
            have z5 : W8.cell? ⟨w.heap.size + 1 + 1, 5, none⟩ = some (.slice none 0 0) := E.out.2.2.2.1.cell 5
            have zf0 := E.out.2.2.2.1.free 0
            have zf1 := E.out.2.2.2.1.free 1
            have zf2 := E.out.2.2.2.1.free 2
            have zf3 := E.out.2.2.2.1.free 3
            have zf4 := E.out.2.2.2.1.free 4
            have zf5 := E.out.2.2.2.1.free 5
            have MA59 : Hid (Below w.heap.size w ((((((W8.setCell ⟨w.heap.size + 1 + 1, 0, none⟩ (.bool false)).setCell ⟨w.heap.size + 1 + 1, 1, none⟩ (.int .i64 0)).setCell ⟨w.heap.size + 1 + 1, 2, none⟩ (.int .i64 0)).setCell ⟨w.heap.size + 1 + 1, 3, none⟩ (.int .i64 0)).setCell ⟨w.heap.size + 1 + 1, 4, none⟩ (.int .i64 0)).setCell ⟨w.heap.size + 1 + 1, 5, none⟩ (.slice none 0 0)) ∧ Box ((((((W8.setCell ⟨w.heap.size + 1 + 1, 0, none⟩ (.bool false)).setCell ⟨w.heap.size + 1 + 1, 1, none⟩ (.int .i64 0)).setCell ⟨w.heap.size + 1 + 1, 2, none⟩ (.int .i64 0)).setCell ⟨w.heap.size + 1 + 1, 3, none⟩ (.int .i64 0)).setCell ⟨w.heap.size + 1 + 1, 4, none⟩ (.int .i64 0)).setCell ⟨w.heap.size + 1 + 1, 5, none⟩ (.slice none 0 0)) (w.heap.size) 40 #[.slice pa v.n pc, .slice ja v.m jc] ∧ Box ((((((W8.setCell ⟨w.heap.size + 1 + 1, 0, none⟩ (.bool false)).setCell ⟨w.heap.size + 1 + 1, 1, none⟩ (.int .i64 0)).setCell ⟨w.heap.size + 1 + 1, 2, none⟩ (.int .i64 0)).setCell ⟨w.heap.size + 1 + 1, 3, none⟩ (.int .i64 0)).setCell ⟨w.heap.size + 1 + 1, 4, none⟩ (.int .i64 0)).setCell ⟨w.heap.size + 1 + 1, 5, none⟩ (.slice none 0 0)) (w.heap.size + 1) 30 #[.int .i64 (fq : Int), .int .i64 fa, .int .i64 fw] ∧ Box ((((((W8.setCell ⟨w.heap.size + 1 + 1, 0, none⟩ (.bool false)).setCell ⟨w.heap.size + 1 + 1, 1, none⟩ (.int .i64 0)).setCell ⟨w.heap.size + 1 + 1, 2, none⟩ (.int .i64 0)).setCell ⟨w.heap.size + 1 + 1, 3, none⟩ (.int .i64 0)).setCell ⟨w.heap.size + 1 + 1, 4, none⟩ (.int .i64 0)).setCell ⟨w.heap.size + 1 + 1, 5, none⟩ (.slice none 0 0)) (w.heap.size + 1 + 1) 35 #[.bool false, .int .i64 0, .int .i64 0, .int .i64 0, .int .i64 0, .slice none 0 0] ∧ Box ((((((W8.setCell ⟨w.heap.size + 1 + 1, 0, none⟩ (.bool false)).setCell ⟨w.heap.size + 1 + 1, 1, none⟩ (.int .i64 0)).setCell ⟨w.heap.size + 1 + 1, 2, none⟩ (.int .i64 0)).setCell ⟨w.heap.size + 1 + 1, 3, none⟩ (.int .i64 0)).setCell ⟨w.heap.size + 1 + 1, 4, none⟩ (.int .i64 0)).setCell ⟨w.heap.size + 1 + 1, 5, none⟩ (.slice none 0 0)) (tb) 33 #[.int .i64 (fq : Int), .int .i64 fa, .int .i64 fw, .int .i64 lg, .slice oa k oc] ∧ Box ((((((W8.setCell ⟨w.heap.size + 1 + 1, 0, none⟩ (.bool false)).setCell ⟨w.heap.size + 1 + 1, 1, none⟩ (.int .i64 0)).setCell ⟨w.heap.size + 1 + 1, 2, none⟩ (.int .i64 0)).setCell ⟨w.heap.size + 1 + 1, 3, none⟩ (.int .i64 0)).setCell ⟨w.heap.size + 1 + 1, 4, none⟩ (.int .i64 0)).setCell ⟨w.heap.size + 1 + 1, 5, none⟩ (.slice none 0 0)) (aq) 74 #[.int .i64 (sp : Int), .int .i64 wy] ∧ V6.heap.size ≤ ((((((W8.setCell ⟨w.heap.size + 1 + 1, 0, none⟩ (.bool false)).setCell ⟨w.heap.size + 1 + 1, 1, none⟩ (.int .i64 0)).setCell ⟨w.heap.size + 1 + 1, 2, none⟩ (.int .i64 0)).setCell ⟨w.heap.size + 1 + 1, 3, none⟩ (.int .i64 0)).setCell ⟨w.heap.size + 1 + 1, 4, none⟩ (.int .i64 0)).setCell ⟨w.heap.size + 1 + 1, 5, none⟩ (.slice none 0 0)).heap.size ∧ VOwn V6.heap.size 74 2 ((((((W8.setCell ⟨w.heap.size + 1 + 1, 0, none⟩ (.bool false)).setCell ⟨w.heap.size + 1 + 1, 1, none⟩ (.int .i64 0)).setCell ⟨w.heap.size + 1 + 1, 2, none⟩ (.int .i64 0)).setCell ⟨w.heap.size + 1 + 1, 3, none⟩ (.int .i64 0)).setCell ⟨w.heap.size + 1 + 1, 4, none⟩ (.int .i64 0)).setCell ⟨w.heap.size + 1 + 1, 5, none⟩ (.slice none 0 0)) (.slice oa k oc) k (intF (plB v L fq fw)) ∧ Box ((((((W8.setCell ⟨w.heap.size + 1 + 1, 0, none⟩ (.bool false)).setCell ⟨w.heap.size + 1 + 1, 1, none⟩ (.int .i64 0)).setCell ⟨w.heap.size + 1 + 1, 2, none⟩ (.int .i64 0)).setCell ⟨w.heap.size + 1 + 1, 3, none⟩ (.int .i64 0)).setCell ⟨w.heap.size + 1 + 1, 4, none⟩ (.int .i64 0)).setCell ⟨w.heap.size + 1 + 1, 5, none⟩ (.slice none 0 0)) (eq) 76 #[.int .i64 a, .int .i64 b]) := ⟨((((((E.out.1.setCell (Nat.le_add_right _ 2) _).setCell (Nat.le_add_right _ 2) _).setCell (Nat.le_add_right _ 2) _).setCell (Nat.le_add_right _ 2) _).setCell (Nat.le_add_right _ 2) _).setCell (Nat.le_add_right _ 2) _), ((((((E.out.2.1.other (box_ne E.out.2.1 E.out.2.2.2.1 (by decide)) _).other (box_ne E.out.2.1 E.out.2.2.2.1 (by decide)) _).other (box_ne E.out.2.1 E.out.2.2.2.1 (by decide)) _).other (box_ne E.out.2.1 E.out.2.2.2.1 (by decide)) _).other (box_ne E.out.2.1 E.out.2.2.2.1 (by decide)) _).other (box_ne E.out.2.1 E.out.2.2.2.1 (by decide)) _), ((((((E.out.2.2.1.other (box_ne E.out.2.2.1 E.out.2.2.2.1 (by decide)) _).other (box_ne E.out.2.2.1 E.out.2.2.2.1 (by decide)) _).other (box_ne E.out.2.2.1 E.out.2.2.2.1 (by decide)) _).other (box_ne E.out.2.2.1 E.out.2.2.2.1 (by decide)) _).other (box_ne E.out.2.2.1 E.out.2.2.2.1 (by decide)) _).other (box_ne E.out.2.2.1 E.out.2.2.2.1 (by decide)) _), by have h9 := ((((((E.out.2.2.2.1.set 0 (.bool false)).set 1 (.int .i64 0)).set 2 (.int .i64 0)).set 3 (.int .i64 0)).set 4 (.int .i64 0)).set 5 (.slice none 0 0)); exact h9, ((((((E.out.2.2.2.2.1.other (box_ne E.out.2.2.2.2.1 E.out.2.2.2.1 (by decide)) _).other (box_ne E.out.2.2.2.2.1 E.out.2.2.2.1 (by decide)) _).other (box_ne E.out.2.2.2.2.1 E.out.2.2.2.1 (by decide)) _).other (box_ne E.out.2.2.2.2.1 E.out.2.2.2.1 (by decide)) _).other (box_ne E.out.2.2.2.2.1 E.out.2.2.2.1 (by decide)) _).other (box_ne E.out.2.2.2.2.1 E.out.2.2.2.1 (by decide)) _), ((((((E.out.2.2.2.2.2.1.other (box_ne E.out.2.2.2.2.2.1 E.out.2.2.2.1 (by decide)) _).other (box_ne E.out.2.2.2.2.2.1 E.out.2.2.2.1 (by decide)) _).other (box_ne E.out.2.2.2.2.2.1 E.out.2.2.2.1 (by decide)) _).other (box_ne E.out.2.2.2.2.2.1 E.out.2.2.2.1 (by decide)) _).other (box_ne E.out.2.2.2.2.2.1 E.out.2.2.2.1 (by decide)) _).other (box_ne E.out.2.2.2.2.2.1 E.out.2.2.2.1 (by decide)) _), (Nat.le_trans (Nat.le_trans (Nat.le_trans (Nat.le_trans (Nat.le_trans (Nat.le_trans E.out.2.2.2.2.2.2.1 (Nat.le_of_eq (size_setc _ _ _).symm)) (Nat.le_of_eq (size_setc _ _ _).symm)) (Nat.le_of_eq (size_setc _ _ _).symm)) (Nat.le_of_eq (size_setc _ _ _).symm)) (Nat.le_of_eq (size_setc _ _ _).symm)) (Nat.le_of_eq (size_setc _ _ _).symm)), ((((((E.out.2.2.2.2.2.2.2.1.set E.out.2.2.2.1 (by decide) 0 _).set (E.out.2.2.2.1.set 0 (.bool false)) (by decide) 1 _).set ((E.out.2.2.2.1.set 0 (.bool false)).set 1 (.int .i64 0)) (by decide) 2 _).set (((E.out.2.2.2.1.set 0 (.bool false)).set 1 (.int .i64 0)).set 2 (.int .i64 0)) (by decide) 3 _).set ((((E.out.2.2.2.1.set 0 (.bool false)).set 1 (.int .i64 0)).set 2 (.int .i64 0)).set 3 (.int .i64 0)) (by decide) 4 _).set (((((E.out.2.2.2.1.set 0 (.bool false)).set 1 (.int .i64 0)).set 2 (.int .i64 0)).set 3 (.int .i64 0)).set 4 (.int .i64 0)) (by decide) 5 _), ((((((E.out.2.2.2.2.2.2.2.2.other (box_ne E.out.2.2.2.2.2.2.2.2 E.out.2.2.2.1 (by decide)) _).other (box_ne E.out.2.2.2.2.2.2.2.2 E.out.2.2.2.1 (by decide)) _).other (box_ne E.out.2.2.2.2.2.2.2.2 E.out.2.2.2.1 (by decide)) _).other (box_ne E.out.2.2.2.2.2.2.2.2 E.out.2.2.2.1 (by decide)) _).other (box_ne E.out.2.2.2.2.2.2.2.2 E.out.2.2.2.1 (by decide)) _).other (box_ne E.out.2.2.2.2.2.2.2.2 E.out.2.2.2.1 (by decide)) _)⟩
            clear E
            go_wp2_with fail
            clear t0 t1 t2 t3 t4 z0 z1 z2 z3 z4 z5 zf0 zf1 zf2 zf3 zf4 zf5
            generalize ((((((W8.setCell ⟨w.heap.size + 1 + 1, 0, none⟩ (.bool false)).setCell ⟨w.heap.size + 1 + 1, 1, none⟩ (.int .i64 0)).setCell ⟨w.heap.size + 1 + 1, 2, none⟩ (.int .i64 0)).setCell ⟨w.heap.size + 1 + 1, 3, none⟩ (.int .i64 0)).setCell ⟨w.heap.size + 1 + 1, 4, none⟩ (.int .i64 0)).setCell ⟨w.heap.size + 1 + 1, 5, none⟩ (.slice none 0 0)) = W9 at MA59 ⊢
            have z0 : W9.cell? ⟨w.heap.size + 1 + 1, 0, none⟩ = some (.bool false) := MA59.out.2.2.2.1.cell 0
            have z1 : W9.cell? ⟨w.heap.size + 1 + 1, 1, none⟩ = some (.int .i64 0) := MA59.out.2.2.2.1.cell 1
            have z2 : W9.cell? ⟨w.heap.size + 1 + 1, 2, none⟩ = some (.int .i64 0) := MA59.out.2.2.2.1.cell 2
            have z3 : W9.cell? ⟨w.heap.size + 1 + 1, 3, none⟩ = some (.int .i64 0) := MA59.out.2.2.2.1.cell 3
            have z4 : W9.cell? ⟨w.heap.size + 1 + 1, 4, none⟩ = some (.int .i64 0) := MA59.out.2.2.2.1.cell 4
            have z5 : W9.cell? ⟨w.heap.size + 1 + 1, 5, none⟩ = some (.slice none 0 0) := MA59.out.2.2.2.1.cell 5
            exact bodyPost_ret (v := .agg #[.bool false, .int .i64 0, .int .i64 0, .int .i64 0, .int .i64 0, .slice none 0 0]) (by simp [results, Tryz.results7, go_sem, z0, z1, z2, z3, z4, z5]) rfl (pl_no HN.out rfl MA59.out.1)
          · subst hcd
            obtain ⟨q2, hq2, hq2n⟩ := next_pc OK.out.1 hspn OK.out.2.2 HCD.out
            obtain ⟨sd, HSD⟩ : ∃ q, Hid ((nextAt v L sp (-wy)).sd = q) := ⟨_, rfl⟩
            have hsd2 : sd = 0 ∨ sd = 1 := by rw [← HSD.out]; exact next_sd OK.out.1 hspn OK.out.2.2 HCD.out
            have HE0 : Hid (a = (q2 : Int) ∧ b = sd) := by have h9 := HAB.out rfl; rw [hq2, HSD.out] at h9; exact h9
            have HQ2 : Hid (plB v L fq fw k 0 = (q2 : Int) ∧ plB v L fq fw k 1 = -(enW sd)) := by
              have e0 : plB v L fq fw k 0 = ((nextAt v L (plS v L fq fw k).1 (-(plS v L fq fw k).2)).pc.toNat : Int) := rfl
              have e1 : plB v L fq fw k 1 = -(wayOf (nextAt v L (plS v L fq fw k).1 (-(plS v L fq fw k).2))) := rfl
              rw [HSP.out, HWY.out] at e0 e1
              rw [hq2, Int.toNat_natCast] at e0
              refine ⟨e0, e1.trans ?_⟩
              unfold wayOf enW
              rw [HSD.out]
              rcases hsd2 with h | h <;> rw [h] <;> simp
            have E1 : Hid (Below w.heap.size w W8 ∧ Box W8 (w.heap.size) 40 #[.slice pa v.n pc, .slice ja v.m jc] ∧ Box W8 (w.heap.size + 1) 30 #[.int .i64 (fq : Int), .int .i64 fa, .int .i64 fw] ∧ Box W8 (w.heap.size + 1 + 1) 35 #[.bool false, .int .i64 0, .int .i64 0, .int .i64 0, .int .i64 0, .slice none 0 0] ∧ Box W8 (tb) 33 #[.int .i64 (fq : Int), .int .i64 fa, .int .i64 fw, .int .i64 lg, .slice oa k oc] ∧ Box W8 (aq) 74 #[.int .i64 (sp : Int), .int .i64 wy] ∧ V6.heap.size ≤ W8.heap.size ∧ VOwn V6.heap.size 74 2 W8 (.slice oa k oc) k (intF (plB v L fq fw)) ∧ Box W8 (eq) 76 #[.int .i64 (q2 : Int), .int .i64 sd]) := by have h9 := E.out; rw [HE0.out.1, HE0.out.2] at h9; exact h9
            clear E hq2
            have hew : enW sd = 1 ∨ enW sd = -1 := by unfold enW; split <;> simp
            have hwe : IntKind.i64.wrap (-(enW sd)) = -(enW sd) := by rw [IntKind.wrap_i64]; omega
            have hk200 : ((k : Int) == 200) = false := by simp; omega
            have hq0 : (0 : Int) ≤ (q2 : Int) := by omega
            have hqi : (q2 : Int) < (v.n : Int) := by omega
            have hln := OK.out.1.ln q2 hq2n
            have a0 : W8.cell? ⟨w.heap.size, 0, none⟩ = some (.slice pa v.n pc) := E1.out.2.1.cell 0
            have a1 : W8.cell? ⟨w.heap.size, 1, none⟩ = some (.slice ja v.m jc) := E1.out.2.1.cell 1
            have b0 : W8.cell? ⟨tb, 0, none⟩ = some (.int .i64 (fq : Int)) := E1.out.2.2.2.2.1.cell 0
            have b1 : W8.cell? ⟨tb, 1, none⟩ = some (.int .i64 fa) := E1.out.2.2.2.2.1.cell 1
            have b2 : W8.cell? ⟨tb, 2, none⟩ = some (.int .i64 fw) := E1.out.2.2.2.2.1.cell 2
            have b3 : W8.cell? ⟨tb, 3, none⟩ = some (.int .i64 lg) := E1.out.2.2.2.2.1.cell 3
            have b4 : W8.cell? ⟨tb, 4, none⟩ = some (.slice oa k oc) := E1.out.2.2.2.2.1.cell 4
            have c0 : W8.cell? ⟨eq, 0, none⟩ = some (.int .i64 (q2 : Int)) := E1.out.2.2.2.2.2.2.2.2.cell 0
            have c1 : W8.cell? ⟨eq, 1, none⟩ = some (.int .i64 sd) := E1.out.2.2.2.2.2.2.2.2.cell 1
            go_wp2_with fail
            clear a0 a1 b0 b1 b2 b3 b4 c0 c1
            refine (enter38 OK.out.1 pa pc ja jc q2 sd W8 hq2n (H.out.1.mono (Nat.le_refl _) E1.out.1 (Nat.le_refl _))).mono ?_
            rintro e w10 ⟨rfl, hb⟩
            have MA27 : Hid (Below w.heap.size w w10 ∧ Box w10 (w.heap.size) 40 #[.slice pa v.n pc, .slice ja v.m jc] ∧ Box w10 (w.heap.size + 1) 30 #[.int .i64 (fq : Int), .int .i64 fa, .int .i64 fw] ∧ Box w10 (w.heap.size + 1 + 1) 35 #[.bool false, .int .i64 0, .int .i64 0, .int .i64 0, .int .i64 0, .slice none 0 0] ∧ Box w10 (tb) 33 #[.int .i64 (fq : Int), .int .i64 fa, .int .i64 fw, .int .i64 lg, .slice oa k oc] ∧ Box w10 (aq) 74 #[.int .i64 (sp : Int), .int .i64 wy] ∧ V6.heap.size ≤ w10.heap.size ∧ VOwn V6.heap.size 74 2 w10 (.slice oa k oc) k (intF (plB v L fq fw)) ∧ Box w10 (eq) 76 #[.int .i64 (q2 : Int), .int .i64 sd]) := ⟨E1.out.1.trans (hb.mono E1.out.1.size), E1.out.2.1.mono hb (Nat.le_refl _), E1.out.2.2.1.mono hb (Nat.le_refl _), E1.out.2.2.2.1.mono hb (Nat.le_refl _), E1.out.2.2.2.2.1.mono hb (Nat.le_refl _), E1.out.2.2.2.2.2.1.mono hb (Nat.le_refl _), Nat.le_trans E1.out.2.2.2.2.2.2.1 hb.size, E1.out.2.2.2.2.2.2.2.1.mono (Nat.le_refl _) hb (Nat.le_refl _), E1.out.2.2.2.2.2.2.2.2.mono hb (Nat.le_refl _)⟩
            clear hb E1
            have MA28 : Hid (Below w.heap.size w (w10.alloc (.cells #[.int .i64 (q2 : Int), .int .i64 (enA v q2 sd), .int .i64 (enW sd)] 30)) ∧ Box (w10.alloc (.cells #[.int .i64 (q2 : Int), .int .i64 (enA v q2 sd), .int .i64 (enW sd)] 30)) (w.heap.size) 40 #[.slice pa v.n pc, .slice ja v.m jc] ∧ Box (w10.alloc (.cells #[.int .i64 (q2 : Int), .int .i64 (enA v q2 sd), .int .i64 (enW sd)] 30)) (w.heap.size + 1) 30 #[.int .i64 (fq : Int), .int .i64 fa, .int .i64 fw] ∧ Box (w10.alloc (.cells #[.int .i64 (q2 : Int), .int .i64 (enA v q2 sd), .int .i64 (enW sd)] 30)) (w.heap.size + 1 + 1) 35 #[.bool false, .int .i64 0, .int .i64 0, .int .i64 0, .int .i64 0, .slice none 0 0] ∧ Box (w10.alloc (.cells #[.int .i64 (q2 : Int), .int .i64 (enA v q2 sd), .int .i64 (enW sd)] 30)) (tb) 33 #[.int .i64 (fq : Int), .int .i64 fa, .int .i64 fw, .int .i64 lg, .slice oa k oc] ∧ Box (w10.alloc (.cells #[.int .i64 (q2 : Int), .int .i64 (enA v q2 sd), .int .i64 (enW sd)] 30)) (aq) 74 #[.int .i64 (sp : Int), .int .i64 wy] ∧ V6.heap.size ≤ (w10.alloc (.cells #[.int .i64 (q2 : Int), .int .i64 (enA v q2 sd), .int .i64 (enW sd)] 30)).heap.size ∧ VOwn V6.heap.size 74 2 (w10.alloc (.cells #[.int .i64 (q2 : Int), .int .i64 (enA v q2 sd), .int .i64 (enW sd)] 30)) (.slice oa k oc) k (intF (plB v L fq fw)) ∧ Box (w10.alloc (.cells #[.int .i64 (q2 : Int), .int .i64 (enA v q2 sd), .int .i64 (enW sd)] 30)) (eq) 76 #[.int .i64 (q2 : Int), .int .i64 sd] ∧ Box (w10.alloc (.cells #[.int .i64 (q2 : Int), .int .i64 (enA v q2 sd), .int .i64 (enW sd)] 30)) (w10.heap.size) 30 #[.int .i64 (q2 : Int), .int .i64 (enA v q2 sd), .int .i64 (enW sd)]) := ⟨MA27.out.1.alloc MA27.out.1.size _, MA27.out.2.1.alloc _, MA27.out.2.2.1.alloc _, MA27.out.2.2.2.1.alloc _, MA27.out.2.2.2.2.1.alloc _, MA27.out.2.2.2.2.2.1.alloc _, Nat.le_trans MA27.out.2.2.2.2.2.2.1 (bel1 _ _).size, MA27.out.2.2.2.2.2.2.2.1.alloc _, MA27.out.2.2.2.2.2.2.2.2.alloc _, Box.new _ _ _⟩
            have HL29 : Hid (w.heap.size ≤ w10.heap.size) := MA27.out.1.size
            go_upto_region 11 with fail
            clear MA27
            generalize w10.alloc (.cells #[.int .i64 (q2 : Int), .int .i64 (enA v q2 sd), .int .i64 (enW sd)] 30) = V11 at MA28 ⊢
            generalize w10.heap.size = ib at MA28 HL29 ⊢
            have a0 : V11.cell? ⟨aq, 0, none⟩ = some (.int .i64 (sp : Int)) := MA28.out.2.2.2.2.2.1.cell 0
            have a1 : V11.cell? ⟨aq, 1, none⟩ = some (.int .i64 wy) := MA28.out.2.2.2.2.2.1.cell 1
            have af0 := MA28.out.2.2.2.2.2.1.free 0
            have af1 := MA28.out.2.2.2.2.2.1.free 1
            have b0 : V11.cell? ⟨ib, 0, none⟩ = some (.int .i64 (q2 : Int)) := MA28.out.2.2.2.2.2.2.2.2.2.cell 0
            have b1 : V11.cell? ⟨ib, 1, none⟩ = some (.int .i64 (enA v q2 sd)) := MA28.out.2.2.2.2.2.2.2.2.2.cell 1
            have b2 : V11.cell? ⟨ib, 2, none⟩ = some (.int .i64 (enW sd)) := MA28.out.2.2.2.2.2.2.2.2.2.cell 2
            have MA30 : Hid (Below w.heap.size w ((V11.setCell ⟨aq, 0, none⟩ (.int .i64 (q2 : Int))).setCell ⟨aq, 1, none⟩ (.int .i64 (-(enW sd)))) ∧ Box ((V11.setCell ⟨aq, 0, none⟩ (.int .i64 (q2 : Int))).setCell ⟨aq, 1, none⟩ (.int .i64 (-(enW sd)))) (w.heap.size) 40 #[.slice pa v.n pc, .slice ja v.m jc] ∧ Box ((V11.setCell ⟨aq, 0, none⟩ (.int .i64 (q2 : Int))).setCell ⟨aq, 1, none⟩ (.int .i64 (-(enW sd)))) (w.heap.size + 1) 30 #[.int .i64 (fq : Int), .int .i64 fa, .int .i64 fw] ∧ Box ((V11.setCell ⟨aq, 0, none⟩ (.int .i64 (q2 : Int))).setCell ⟨aq, 1, none⟩ (.int .i64 (-(enW sd)))) (w.heap.size + 1 + 1) 35 #[.bool false, .int .i64 0, .int .i64 0, .int .i64 0, .int .i64 0, .slice none 0 0] ∧ Box ((V11.setCell ⟨aq, 0, none⟩ (.int .i64 (q2 : Int))).setCell ⟨aq, 1, none⟩ (.int .i64 (-(enW sd)))) (tb) 33 #[.int .i64 (fq : Int), .int .i64 fa, .int .i64 fw, .int .i64 lg, .slice oa k oc] ∧ Box ((V11.setCell ⟨aq, 0, none⟩ (.int .i64 (q2 : Int))).setCell ⟨aq, 1, none⟩ (.int .i64 (-(enW sd)))) (aq) 74 #[.int .i64 (q2 : Int), .int .i64 (-(enW sd))] ∧ V6.heap.size ≤ ((V11.setCell ⟨aq, 0, none⟩ (.int .i64 (q2 : Int))).setCell ⟨aq, 1, none⟩ (.int .i64 (-(enW sd)))).heap.size ∧ VOwn V6.heap.size 74 2 ((V11.setCell ⟨aq, 0, none⟩ (.int .i64 (q2 : Int))).setCell ⟨aq, 1, none⟩ (.int .i64 (-(enW sd)))) (.slice oa k oc) k (intF (plB v L fq fw)) ∧ Box ((V11.setCell ⟨aq, 0, none⟩ (.int .i64 (q2 : Int))).setCell ⟨aq, 1, none⟩ (.int .i64 (-(enW sd)))) (eq) 76 #[.int .i64 (q2 : Int), .int .i64 sd] ∧ Box ((V11.setCell ⟨aq, 0, none⟩ (.int .i64 (q2 : Int))).setCell ⟨aq, 1, none⟩ (.int .i64 (-(enW sd)))) (ib) 30 #[.int .i64 (q2 : Int), .int .i64 (enA v q2 sd), .int .i64 (enW sd)]) := ⟨((MA28.out.1.setCell HL26.out _).setCell HL26.out _), ((MA28.out.2.1.other (box_ne MA28.out.2.1 MA28.out.2.2.2.2.2.1 (by decide)) _).other (box_ne MA28.out.2.1 MA28.out.2.2.2.2.2.1 (by decide)) _), ((MA28.out.2.2.1.other (box_ne MA28.out.2.2.1 MA28.out.2.2.2.2.2.1 (by decide)) _).other (box_ne MA28.out.2.2.1 MA28.out.2.2.2.2.2.1 (by decide)) _), ((MA28.out.2.2.2.1.other (box_ne MA28.out.2.2.2.1 MA28.out.2.2.2.2.2.1 (by decide)) _).other (box_ne MA28.out.2.2.2.1 MA28.out.2.2.2.2.2.1 (by decide)) _), ((MA28.out.2.2.2.2.1.other (box_ne MA28.out.2.2.2.2.1 MA28.out.2.2.2.2.2.1 (by decide)) _).other (box_ne MA28.out.2.2.2.2.1 MA28.out.2.2.2.2.2.1 (by decide)) _), by have h9 := ((MA28.out.2.2.2.2.2.1.set 0 (.int .i64 (q2 : Int))).set 1 (.int .i64 (-(enW sd)))); exact h9, (Nat.le_trans (Nat.le_trans MA28.out.2.2.2.2.2.2.1 (Nat.le_of_eq (size_setc _ _ _).symm)) (Nat.le_of_eq (size_setc _ _ _).symm)), ((MA28.out.2.2.2.2.2.2.2.1.low HAQ.out 0 _).low HAQ.out 1 _), ((MA28.out.2.2.2.2.2.2.2.2.1.other (box_ne MA28.out.2.2.2.2.2.2.2.2.1 MA28.out.2.2.2.2.2.1 (by decide)) _).other (box_ne MA28.out.2.2.2.2.2.2.2.2.1 MA28.out.2.2.2.2.2.1 (by decide)) _), ((MA28.out.2.2.2.2.2.2.2.2.2.other (box_ne MA28.out.2.2.2.2.2.2.2.2.2 MA28.out.2.2.2.2.2.1 (by decide)) _).other (box_ne MA28.out.2.2.2.2.2.2.2.2.2 MA28.out.2.2.2.2.2.1 (by decide)) _)⟩
            go_upto_region 12 with fail
            clear a0 a1 af0 af1 b0 b1 b2 MA28
            generalize ((V11.setCell ⟨aq, 0, none⟩ (.int .i64 (q2 : Int))).setCell ⟨aq, 1, none⟩ (.int .i64 (-(enW sd)))) = W12 at MA30 ⊢
            have a0 : W12.cell? ⟨tb, 0, none⟩ = some (.int .i64 (fq : Int)) := MA30.out.2.2.2.2.1.cell 0
            have a1 : W12.cell? ⟨tb, 1, none⟩ = some (.int .i64 fa) := MA30.out.2.2.2.2.1.cell 1
            have a2 : W12.cell? ⟨tb, 2, none⟩ = some (.int .i64 fw) := MA30.out.2.2.2.2.1.cell 2
            have a3 : W12.cell? ⟨tb, 3, none⟩ = some (.int .i64 lg) := MA30.out.2.2.2.2.1.cell 3
            have a4 : W12.cell? ⟨tb, 4, none⟩ = some (.slice oa k oc) := MA30.out.2.2.2.2.1.cell 4
            have b0 : W12.cell? ⟨aq, 0, none⟩ = some (.int .i64 (q2 : Int)) := MA30.out.2.2.2.2.2.1.cell 0
            have b1 : W12.cell? ⟨aq, 1, none⟩ = some (.int .i64 (-(enW sd))) := MA30.out.2.2.2.2.2.1.cell 1
            have HVS : Hid ((#[.int .i64 (q2 : Int), .int .i64 (-(enW sd))] : Array Value).toList = (List.range 2).map (intF (plB v L fq fw) k)) := by
              show _ = _
              have e0 : plB v L fq fw k 0 = (q2 : Int) := HQ2.out.1
              have e1 : plB v L fq fw k 1 = -(enW sd) := HQ2.out.2
              simp [List.range_succ, intF, e0, e1]
            have hsz : V6.heap.size ≤ (W12.alloc (.cells #[.int .i64 (q2 : Int), .int .i64 (-(enW sd))] 74)).heap.size := Nat.le_trans MA30.out.2.2.2.2.2.2.1 (bel1 _ _).size
            go_wp2_with (at_builtin; go_must (refine wpList_vapp _ rfl _ _ 31 rfl V6.heap.size 74 i0 _ 2 16 Tryz.underlying31 hi0 hz0 hs0 hb0 rfl (by decide) (.slice oa k oc) k (intF (plB v L fq fw)) rfl (MA30.out.2.2.2.2.2.2.2.1.alloc _) (fun _ _ => rfl) W12.heap.size 1 #[.int .i64 (q2 : Int), .int .i64 (-(enW sd))] rfl (Box.new _ _ _) HVS.out (by simp only [maxLen]; omega) (by omega) hsz (Halt.mk ?_)))
            intro v2 w13 ho2 hg2
            obtain ⟨av, cv, rfl⟩ := ho2.val
            have MG : Hid (Below w.heap.size w w13 ∧ Box w13 (w.heap.size) 40 #[.slice pa v.n pc, .slice ja v.m jc] ∧ Box w13 (w.heap.size + 1) 30 #[.int .i64 (fq : Int), .int .i64 fa, .int .i64 fw] ∧ Box w13 (w.heap.size + 1 + 1) 35 #[.bool false, .int .i64 0, .int .i64 0, .int .i64 0, .int .i64 0, .slice none 0 0] ∧ Box w13 (tb) 33 #[.int .i64 (fq : Int), .int .i64 fa, .int .i64 fw, .int .i64 lg, .slice oa k oc] ∧ Box w13 (aq) 74 #[.int .i64 (q2 : Int), .int .i64 (-(enW sd))] ∧ V6.heap.size ≤ w13.heap.size ∧ Box w13 (eq) 76 #[.int .i64 (q2 : Int), .int .i64 sd] ∧ Box w13 (ib) 30 #[.int .i64 (q2 : Int), .int .i64 (enA v q2 sd), .int .i64 (enW sd)] ∧ VOwn V6.heap.size 74 2 w13 (.slice av (k + 1) cv) (k + 1) (intF (plB v L fq fw))) := ⟨bel_grow MA30.out.1 MA30.out.2.2.2.2.2.2.2.1 MA30.out.1.size HV6.out hg2, box_grow MA30.out.2.1 MA30.out.2.2.2.2.2.2.2.1 (by decide) hg2, box_grow MA30.out.2.2.1 MA30.out.2.2.2.2.2.2.2.1 (by decide) hg2, box_grow MA30.out.2.2.2.1 MA30.out.2.2.2.2.2.2.2.1 (by decide) hg2, box_grow MA30.out.2.2.2.2.1 MA30.out.2.2.2.2.2.2.2.1 (by decide) hg2, box_growL MA30.out.2.2.2.2.2.1 MA30.out.2.2.2.2.2.2.2.1 HAQ.out hg2, Nat.le_trans (Nat.le_trans MA30.out.2.2.2.2.2.2.1 (bel1 _ _).size) hg2.size, box_grow MA30.out.2.2.2.2.2.2.2.2.1 MA30.out.2.2.2.2.2.2.2.1 (by decide) hg2, box_grow MA30.out.2.2.2.2.2.2.2.2.2 MA30.out.2.2.2.2.2.2.2.1 (by decide) hg2, ho2⟩
            clear ho2 hg2 hsz MA30
            clear a0 a1 a2 a3 a4 b0 b1
            have a0 : w13.cell? ⟨tb, 0, none⟩ = some (.int .i64 (fq : Int)) := MG.out.2.2.2.2.1.cell 0
            have a1 : w13.cell? ⟨tb, 1, none⟩ = some (.int .i64 fa) := MG.out.2.2.2.2.1.cell 1
            have a2 : w13.cell? ⟨tb, 2, none⟩ = some (.int .i64 fw) := MG.out.2.2.2.2.1.cell 2
            have a3 : w13.cell? ⟨tb, 3, none⟩ = some (.int .i64 lg) := MG.out.2.2.2.2.1.cell 3
            have a4 : w13.cell? ⟨tb, 4, none⟩ = some (.slice oa k oc) := MG.out.2.2.2.2.1.cell 4
            have af0 := MG.out.2.2.2.2.1.free 0
            have af1 := MG.out.2.2.2.2.1.free 1
            have af2 := MG.out.2.2.2.2.1.free 2
            have af3 := MG.out.2.2.2.2.1.free 3
            have af4 := MG.out.2.2.2.2.1.free 4
            have MA31 : Hid (Below w.heap.size w (w13.setCell ⟨tb, 4, none⟩ (.slice av (k + 1) cv)) ∧ Box (w13.setCell ⟨tb, 4, none⟩ (.slice av (k + 1) cv)) (w.heap.size) 40 #[.slice pa v.n pc, .slice ja v.m jc] ∧ Box (w13.setCell ⟨tb, 4, none⟩ (.slice av (k + 1) cv)) (w.heap.size + 1) 30 #[.int .i64 (fq : Int), .int .i64 fa, .int .i64 fw] ∧ Box (w13.setCell ⟨tb, 4, none⟩ (.slice av (k + 1) cv)) (w.heap.size + 1 + 1) 35 #[.bool false, .int .i64 0, .int .i64 0, .int .i64 0, .int .i64 0, .slice none 0 0] ∧ Box (w13.setCell ⟨tb, 4, none⟩ (.slice av (k + 1) cv)) (tb) 33 #[.int .i64 (fq : Int), .int .i64 fa, .int .i64 fw, .int .i64 lg, .slice av (k + 1) cv] ∧ Box (w13.setCell ⟨tb, 4, none⟩ (.slice av (k + 1) cv)) (aq) 74 #[.int .i64 (q2 : Int), .int .i64 (-(enW sd))] ∧ V6.heap.size ≤ (w13.setCell ⟨tb, 4, none⟩ (.slice av (k + 1) cv)).heap.size ∧ Box (w13.setCell ⟨tb, 4, none⟩ (.slice av (k + 1) cv)) (eq) 76 #[.int .i64 (q2 : Int), .int .i64 sd] ∧ Box (w13.setCell ⟨tb, 4, none⟩ (.slice av (k + 1) cv)) (ib) 30 #[.int .i64 (q2 : Int), .int .i64 (enA v q2 sd), .int .i64 (enW sd)] ∧ VOwn V6.heap.size 74 2 (w13.setCell ⟨tb, 4, none⟩ (.slice av (k + 1) cv)) (.slice av (k + 1) cv) (k + 1) (intF (plB v L fq fw))) := ⟨(MG.out.1.setCell HL23.out _), (MG.out.2.1.other (box_ne MG.out.2.1 MG.out.2.2.2.2.1 (by decide)) _), (MG.out.2.2.1.other (box_ne MG.out.2.2.1 MG.out.2.2.2.2.1 (by decide)) _), (MG.out.2.2.2.1.other (box_ne MG.out.2.2.2.1 MG.out.2.2.2.2.1 (by decide)) _), by have h9 := (MG.out.2.2.2.2.1.set 4 (.slice av (k + 1) cv)); exact h9, (MG.out.2.2.2.2.2.1.other (box_ne MG.out.2.2.2.2.2.1 MG.out.2.2.2.2.1 (by decide)) _), (Nat.le_trans MG.out.2.2.2.2.2.2.1 (Nat.le_of_eq (size_setc _ _ _).symm)), (MG.out.2.2.2.2.2.2.2.1.other (box_ne MG.out.2.2.2.2.2.2.2.1 MG.out.2.2.2.2.1 (by decide)) _), (MG.out.2.2.2.2.2.2.2.2.1.other (box_ne MG.out.2.2.2.2.2.2.2.2.1 MG.out.2.2.2.2.1 (by decide)) _), (MG.out.2.2.2.2.2.2.2.2.2.set MG.out.2.2.2.2.1 (by decide) 4 _)⟩
            clear MG
            go_upto_region 13 with fail
            clear a0 a1 a2 a3 a4 af0 af1 af2 af3 af4
            generalize (w13.setCell ⟨tb, 4, none⟩ (.slice av (k + 1) cv)) = W14 at MA31 ⊢
            have a0 : W14.cell? ⟨w.heap.size, 0, none⟩ = some (.slice pa v.n pc) := MA31.out.2.1.cell 0
            have a1 : W14.cell? ⟨w.heap.size, 1, none⟩ = some (.slice ja v.m jc) := MA31.out.2.1.cell 1
            have b0 : W14.cell? ⟨aq, 0, none⟩ = some (.int .i64 (q2 : Int)) := MA31.out.2.2.2.2.2.1.cell 0
            have b1 : W14.cell? ⟨aq, 1, none⟩ = some (.int .i64 (-(enW sd))) := MA31.out.2.2.2.2.2.1.cell 1
            obtain ⟨pb, po, hpe, _, hpl, hpcc⟩ := H.out.1 (by omega)
            have c1 : W14.cell? ⟨pb, po + q2 * 4 + 1, none⟩ = some (.int .i64 (v.P q2).ln) := cell_keep MA31.out.1 hpl (hpcc q2 hq2n).2.1
            clear hpcc hpl
            subst hpe
            have hwx : IntKind.i64.wrap (x + (v.P q2).ln) = x + (v.P q2).ln := by rw [IntKind.wrap_i64]; omega
            have HX2 : Hid (x + (v.P q2).ln = hvF v (fq : Int) fa fw (plB v L fq fw) (k + 1)) := by
              show _ = hvF v (fq : Int) fa fw (plB v L fq fw) k + (v.P (plB v L fq fw k 0).toNat).ln
              rw [HX.out, HQ2.out.1, Int.toNat_natCast]
            have HCN : Hid (∀ i, i < k + 1 → plC v L fq fw i = 0) := fun i hi => by
              by_cases c : i = k
              · rw [c]; exact HPC.out
              · exact HC.out i (by omega)
            have HLN : Hid (∀ i, i < k + 1 → hvF v (fq : Int) fa fw (plB v L fq fw) i < lg) := fun i hi => by
              by_cases c : i = k
              · rw [c, ← HX.out]; exact hlt
              · exact HLT.out i (by omega)
            go_wp2_with fail
            go_roundw
            case rel => exact ⟨k + 1, x + (v.P q2).ln, av, cv, by omega, rfl, HX2, (plG_on (by have := HNL.out; omega) HPC.out (by omega)).symm.trans HG.out, HCN.out, HLN.out, ⟨MA31.out.1, MA31.out.2.1, MA31.out.2.2.1, MA31.out.2.2.2.1, MA31.out.2.2.2.2.1, by have h9 := MA31.out.2.2.2.2.2.1; rw [← HQ2.out.1, ← HQ2.out.2] at h9; exact h9, MA31.out.2.2.2.2.2.2.1, MA31.out.2.2.2.2.2.2.2.2.2⟩⟩
            case measure =>
              show (lg - (x + (v.P q2).ln)).toNat < (lg - x).toNat
              omega
        · have HCN : Hid (plC v L fq fw k ≠ 0) := by show _ ≠ _; rw [HPC.out]; exact hcd
          have hcd' : (cd != 0) = true := by simpa using hcd
          have t0 : W8.cell? ⟨tb, 0, none⟩ = some (.int .i64 (fq : Int)) := E.out.2.2.2.2.1.cell 0
          have t1 : W8.cell? ⟨tb, 1, none⟩ = some (.int .i64 fa) := E.out.2.2.2.2.1.cell 1
          have t2 : W8.cell? ⟨tb, 2, none⟩ = some (.int .i64 fw) := E.out.2.2.2.2.1.cell 2
          have t3 : W8.cell? ⟨tb, 3, none⟩ = some (.int .i64 lg) := E.out.2.2.2.2.1.cell 3
          have t4 : W8.cell? ⟨tb, 4, none⟩ = some (.slice oa k oc) := E.out.2.2.2.2.1.cell 4
          have HN : Hid (plO v v.m L (fq : Int) fa fw lg = none) := HO.out.trans (HG.out.symm.trans (plG_no (by have := HNL.out; omega) (Or.inl HCN.out)))
          have z0 : W8.cell? ⟨w.heap.size + 1 + 1, 0, none⟩ = some (.bool false) := E.out.2.2.2.1.cell 0
          have z1 : W8.cell? ⟨w.heap.size + 1 + 1, 1, none⟩ = some (.int .i64 0) := E.out.2.2.2.1.cell 1
          have z2 : W8.cell? ⟨w.heap.size + 1 + 1, 2, none⟩ = some (.int .i64 0) := E.out.2.2.2.1.cell 2
          have z3 : W8.cell? ⟨w.heap.size + 1 + 1, 3, none⟩ = some (.int .i64 0) := E.out.2.2.2.1.cell 3
          have z4 : W8.cell? ⟨w.heap.size + 1 + 1, 4, none⟩ = some (.int .i64 0) := E.out.2.2.2.1.cell 4
          have z5 : W8.cell? ⟨w.heap.size + 1 + 1, 5, none⟩ = some (.slice none 0 0) := E.out.2.2.2.1.cell 5
          have zf0 := E.out.2.2.2.1.free 0
          have zf1 := E.out.2.2.2.1.free 1
          have zf2 := E.out.2.2.2.1.free 2
          have zf3 := E.out.2.2.2.1.free 3
          have zf4 := E.out.2.2.2.1.free 4
          have zf5 := E.out.2.2.2.1.free 5
          have MA60 : Hid (Below w.heap.size w ((((((W8.setCell ⟨w.heap.size + 1 + 1, 0, none⟩ (.bool false)).setCell ⟨w.heap.size + 1 + 1, 1, none⟩ (.int .i64 0)).setCell ⟨w.heap.size + 1 + 1, 2, none⟩ (.int .i64 0)).setCell ⟨w.heap.size + 1 + 1, 3, none⟩ (.int .i64 0)).setCell ⟨w.heap.size + 1 + 1, 4, none⟩ (.int .i64 0)).setCell ⟨w.heap.size + 1 + 1, 5, none⟩ (.slice none 0 0)) ∧ Box ((((((W8.setCell ⟨w.heap.size + 1 + 1, 0, none⟩ (.bool false)).setCell ⟨w.heap.size + 1 + 1, 1, none⟩ (.int .i64 0)).setCell ⟨w.heap.size + 1 + 1, 2, none⟩ (.int .i64 0)).setCell ⟨w.heap.size + 1 + 1, 3, none⟩ (.int .i64 0)).setCell ⟨w.heap.size + 1 + 1, 4, none⟩ (.int .i64 0)).setCell ⟨w.heap.size + 1 + 1, 5, none⟩ (.slice none 0 0)) (w.heap.size) 40 #[.slice pa v.n pc, .slice ja v.m jc] ∧ Box ((((((W8.setCell ⟨w.heap.size + 1 + 1, 0, none⟩ (.bool false)).setCell ⟨w.heap.size + 1 + 1, 1, none⟩ (.int .i64 0)).setCell ⟨w.heap.size + 1 + 1, 2, none⟩ (.int .i64 0)).setCell ⟨w.heap.size + 1 + 1, 3, none⟩ (.int .i64 0)).setCell ⟨w.heap.size + 1 + 1, 4, none⟩ (.int .i64 0)).setCell ⟨w.heap.size + 1 + 1, 5, none⟩ (.slice none 0 0)) (w.heap.size + 1) 30 #[.int .i64 (fq : Int), .int .i64 fa, .int .i64 fw] ∧ Box ((((((W8.setCell ⟨w.heap.size + 1 + 1, 0, none⟩ (.bool false)).setCell ⟨w.heap.size + 1 + 1, 1, none⟩ (.int .i64 0)).setCell ⟨w.heap.size + 1 + 1, 2, none⟩ (.int .i64 0)).setCell ⟨w.heap.size + 1 + 1, 3, none⟩ (.int .i64 0)).setCell ⟨w.heap.size + 1 + 1, 4, none⟩ (.int .i64 0)).setCell ⟨w.heap.size + 1 + 1, 5, none⟩ (.slice none 0 0)) (w.heap.size + 1 + 1) 35 #[.bool false, .int .i64 0, .int .i64 0, .int .i64 0, .int .i64 0, .slice none 0 0] ∧ Box ((((((W8.setCell ⟨w.heap.size + 1 + 1, 0, none⟩ (.bool false)).setCell ⟨w.heap.size + 1 + 1, 1, none⟩ (.int .i64 0)).setCell ⟨w.heap.size + 1 + 1, 2, none⟩ (.int .i64 0)).setCell ⟨w.heap.size + 1 + 1, 3, none⟩ (.int .i64 0)).setCell ⟨w.heap.size + 1 + 1, 4, none⟩ (.int .i64 0)).setCell ⟨w.heap.size + 1 + 1, 5, none⟩ (.slice none 0 0)) (tb) 33 #[.int .i64 (fq : Int), .int .i64 fa, .int .i64 fw, .int .i64 lg, .slice oa k oc] ∧ Box ((((((W8.setCell ⟨w.heap.size + 1 + 1, 0, none⟩ (.bool false)).setCell ⟨w.heap.size + 1 + 1, 1, none⟩ (.int .i64 0)).setCell ⟨w.heap.size + 1 + 1, 2, none⟩ (.int .i64 0)).setCell ⟨w.heap.size + 1 + 1, 3, none⟩ (.int .i64 0)).setCell ⟨w.heap.size + 1 + 1, 4, none⟩ (.int .i64 0)).setCell ⟨w.heap.size + 1 + 1, 5, none⟩ (.slice none 0 0)) (aq) 74 #[.int .i64 (sp : Int), .int .i64 wy] ∧ V6.heap.size ≤ ((((((W8.setCell ⟨w.heap.size + 1 + 1, 0, none⟩ (.bool false)).setCell ⟨w.heap.size + 1 + 1, 1, none⟩ (.int .i64 0)).setCell ⟨w.heap.size + 1 + 1, 2, none⟩ (.int .i64 0)).setCell ⟨w.heap.size + 1 + 1, 3, none⟩ (.int .i64 0)).setCell ⟨w.heap.size + 1 + 1, 4, none⟩ (.int .i64 0)).setCell ⟨w.heap.size + 1 + 1, 5, none⟩ (.slice none 0 0)).heap.size ∧ VOwn V6.heap.size 74 2 ((((((W8.setCell ⟨w.heap.size + 1 + 1, 0, none⟩ (.bool false)).setCell ⟨w.heap.size + 1 + 1, 1, none⟩ (.int .i64 0)).setCell ⟨w.heap.size + 1 + 1, 2, none⟩ (.int .i64 0)).setCell ⟨w.heap.size + 1 + 1, 3, none⟩ (.int .i64 0)).setCell ⟨w.heap.size + 1 + 1, 4, none⟩ (.int .i64 0)).setCell ⟨w.heap.size + 1 + 1, 5, none⟩ (.slice none 0 0)) (.slice oa k oc) k (intF (plB v L fq fw)) ∧ Box ((((((W8.setCell ⟨w.heap.size + 1 + 1, 0, none⟩ (.bool false)).setCell ⟨w.heap.size + 1 + 1, 1, none⟩ (.int .i64 0)).setCell ⟨w.heap.size + 1 + 1, 2, none⟩ (.int .i64 0)).setCell ⟨w.heap.size + 1 + 1, 3, none⟩ (.int .i64 0)).setCell ⟨w.heap.size + 1 + 1, 4, none⟩ (.int .i64 0)).setCell ⟨w.heap.size + 1 + 1, 5, none⟩ (.slice none 0 0)) (eq) 76 #[.int .i64 a, .int .i64 b]) := ⟨((((((E.out.1.setCell (Nat.le_add_right _ 2) _).setCell (Nat.le_add_right _ 2) _).setCell (Nat.le_add_right _ 2) _).setCell (Nat.le_add_right _ 2) _).setCell (Nat.le_add_right _ 2) _).setCell (Nat.le_add_right _ 2) _), ((((((E.out.2.1.other (box_ne E.out.2.1 E.out.2.2.2.1 (by decide)) _).other (box_ne E.out.2.1 E.out.2.2.2.1 (by decide)) _).other (box_ne E.out.2.1 E.out.2.2.2.1 (by decide)) _).other (box_ne E.out.2.1 E.out.2.2.2.1 (by decide)) _).other (box_ne E.out.2.1 E.out.2.2.2.1 (by decide)) _).other (box_ne E.out.2.1 E.out.2.2.2.1 (by decide)) _), ((((((E.out.2.2.1.other (box_ne E.out.2.2.1 E.out.2.2.2.1 (by decide)) _).other (box_ne E.out.2.2.1 E.out.2.2.2.1 (by decide)) _).other (box_ne E.out.2.2.1 E.out.2.2.2.1 (by decide)) _).other (box_ne E.out.2.2.1 E.out.2.2.2.1 (by decide)) _).other (box_ne E.out.2.2.1 E.out.2.2.2.1 (by decide)) _).other (box_ne E.out.2.2.1 E.out.2.2.2.1 (by decide)) _), by have h9 := ((((((E.out.2.2.2.1.set 0 (.bool false)).set 1 (.int .i64 0)).set 2 (.int .i64 0)).set 3 (.int .i64 0)).set 4 (.int .i64 0)).set 5 (.slice none 0 0)); exact h9, ((((((E.out.2.2.2.2.1.other (box_ne E.out.2.2.2.2.1 E.out.2.2.2.1 (by decide)) _).other (box_ne E.out.2.2.2.2.1 E.out.2.2.2.1 (by decide)) _).other (box_ne E.out.2.2.2.2.1 E.out.2.2.2.1 (by decide)) _).other (box_ne E.out.2.2.2.2.1 E.out.2.2.2.1 (by decide)) _).other (box_ne E.out.2.2.2.2.1 E.out.2.2.2.1 (by decide)) _).other (box_ne E.out.2.2.2.2.1 E.out.2.2.2.1 (by decide)) _), ((((((E.out.2.2.2.2.2.1.other (box_ne E.out.2.2.2.2.2.1 E.out.2.2.2.1 (by decide)) _).other (box_ne E.out.2.2.2.2.2.1 E.out.2.2.2.1 (by decide)) _).other (box_ne E.out.2.2.2.2.2.1 E.out.2.2.2.1 (by decide)) _).other (box_ne E.out.2.2.2.2.2.1 E.out.2.2.2.1 (by decide)) _).other (box_ne E.out.2.2.2.2.2.1 E.out.2.2.2.1 (by decide)) _).other (box_ne E.out.2.2.2.2.2.1 E.out.2.2.2.1 (by decide)) _), (Nat.le_trans (Nat.le_trans (Nat.le_trans (Nat.le_trans (Nat.le_trans (Nat.le_trans E.out.2.2.2.2.2.2.1 (Nat.le_of_eq (size_setc _ _ _).symm)) (Nat.le_of_eq (size_setc _ _ _).symm)) (Nat.le_of_eq (size_setc _ _ _).symm)) (Nat.le_of_eq (size_setc _ _ _).symm)) (Nat.le_of_eq (size_setc _ _ _).symm)) (Nat.le_of_eq (size_setc _ _ _).symm)), ((((((E.out.2.2.2.2.2.2.2.1.set E.out.2.2.2.1 (by decide) 0 _).set (E.out.2.2.2.1.set 0 (.bool false)) (by decide) 1 _).set ((E.out.2.2.2.1.set 0 (.bool false)).set 1 (.int .i64 0)) (by decide) 2 _).set (((E.out.2.2.2.1.set 0 (.bool false)).set 1 (.int .i64 0)).set 2 (.int .i64 0)) (by decide) 3 _).set ((((E.out.2.2.2.1.set 0 (.bool false)).set 1 (.int .i64 0)).set 2 (.int .i64 0)).set 3 (.int .i64 0)) (by decide) 4 _).set (((((E.out.2.2.2.1.set 0 (.bool false)).set 1 (.int .i64 0)).set 2 (.int .i64 0)).set 3 (.int .i64 0)).set 4 (.int .i64 0)) (by decide) 5 _), ((((((E.out.2.2.2.2.2.2.2.2.other (box_ne E.out.2.2.2.2.2.2.2.2 E.out.2.2.2.1 (by decide)) _).other (box_ne E.out.2.2.2.2.2.2.2.2 E.out.2.2.2.1 (by decide)) _).other (box_ne E.out.2.2.2.2.2.2.2.2 E.out.2.2.2.1 (by decide)) _).other (box_ne E.out.2.2.2.2.2.2.2.2 E.out.2.2.2.1 (by decide)) _).other (box_ne E.out.2.2.2.2.2.2.2.2 E.out.2.2.2.1 (by decide)) _).other (box_ne E.out.2.2.2.2.2.2.2.2 E.out.2.2.2.1 (by decide)) _)⟩
          clear E
          go_wp2_with fail
          clear t0 t1 t2 t3 t4 z0 z1 z2 z3 z4 z5 zf0 zf1 zf2 zf3 zf4 zf5
          generalize ((((((W8.setCell ⟨w.heap.size + 1 + 1, 0, none⟩ (.bool false)).setCell ⟨w.heap.size + 1 + 1, 1, none⟩ (.int .i64 0)).setCell ⟨w.heap.size + 1 + 1, 2, none⟩ (.int .i64 0)).setCell ⟨w.heap.size + 1 + 1, 3, none⟩ (.int .i64 0)).setCell ⟨w.heap.size + 1 + 1, 4, none⟩ (.int .i64 0)).setCell ⟨w.heap.size + 1 + 1, 5, none⟩ (.slice none 0 0)) = W9 at MA60 ⊢
          have z0 : W9.cell? ⟨w.heap.size + 1 + 1, 0, none⟩ = some (.bool false) := MA60.out.2.2.2.1.cell 0
          have z1 : W9.cell? ⟨w.heap.size + 1 + 1, 1, none⟩ = some (.int .i64 0) := MA60.out.2.2.2.1.cell 1
          have z2 : W9.cell? ⟨w.heap.size + 1 + 1, 2, none⟩ = some (.int .i64 0) := MA60.out.2.2.2.1.cell 2
          have z3 : W9.cell? ⟨w.heap.size + 1 + 1, 3, none⟩ = some (.int .i64 0) := MA60.out.2.2.2.1.cell 3
          have z4 : W9.cell? ⟨w.heap.size + 1 + 1, 4, none⟩ = some (.int .i64 0) := MA60.out.2.2.2.1.cell 4
          have z5 : W9.cell? ⟨w.heap.size + 1 + 1, 5, none⟩ = some (.slice none 0 0) := MA60.out.2.2.2.1.cell 5
          exact bodyPost_ret (v := .agg #[.bool false, .int .i64 0, .int .i64 0, .int .i64 0, .int .i64 0, .slice none 0 0]) (by simp [results, Tryz.results7, go_sem, z0, z1, z2, z3, z4, z5]) rfl (pl_no HN.out rfl MA60.out.1)
    · have HSM : Hid (plO v v.m L (fq : Int) fa fw lg = some k) := HO.out.trans (HG.out.symm.trans (plG_in (by rw [← HX.out]; omega)))
      have a0 : wr.cell? ⟨tb, 0, none⟩ = some (.int .i64 (fq : Int)) := D.out.2.2.2.2.1.cell 0
      have a1 : wr.cell? ⟨tb, 1, none⟩ = some (.int .i64 fa) := D.out.2.2.2.2.1.cell 1
      have a2 : wr.cell? ⟨tb, 2, none⟩ = some (.int .i64 fw) := D.out.2.2.2.2.1.cell 2
      have a3 : wr.cell? ⟨tb, 3, none⟩ = some (.int .i64 lg) := D.out.2.2.2.2.1.cell 3
      have a4 : wr.cell? ⟨tb, 4, none⟩ = some (.slice oa k oc) := D.out.2.2.2.2.1.cell 4
      have z0 : wr.cell? ⟨w.heap.size + 1 + 1, 0, none⟩ = some (.bool false) := D.out.2.2.2.1.cell 0
      have z1 : wr.cell? ⟨w.heap.size + 1 + 1, 1, none⟩ = some (.int .i64 0) := D.out.2.2.2.1.cell 1
      have z2 : wr.cell? ⟨w.heap.size + 1 + 1, 2, none⟩ = some (.int .i64 0) := D.out.2.2.2.1.cell 2
      have z3 : wr.cell? ⟨w.heap.size + 1 + 1, 3, none⟩ = some (.int .i64 0) := D.out.2.2.2.1.cell 3
      have z4 : wr.cell? ⟨w.heap.size + 1 + 1, 4, none⟩ = some (.int .i64 0) := D.out.2.2.2.1.cell 4
      have z5 : wr.cell? ⟨w.heap.size + 1 + 1, 5, none⟩ = some (.slice none 0 0) := D.out.2.2.2.1.cell 5
      have zf0 := D.out.2.2.2.1.free 0
      have zf1 := D.out.2.2.2.1.free 1
      have zf2 := D.out.2.2.2.1.free 2
      have zf3 := D.out.2.2.2.1.free 3
      have zf4 := D.out.2.2.2.1.free 4
      have zf5 := D.out.2.2.2.1.free 5
      have MA32 : Hid (Below w.heap.size w ((((((wr.setCell ⟨w.heap.size + 1 + 1, 0, none⟩ (.bool true)).setCell ⟨w.heap.size + 1 + 1, 1, none⟩ (.int .i64 (fq : Int))).setCell ⟨w.heap.size + 1 + 1, 2, none⟩ (.int .i64 fa)).setCell ⟨w.heap.size + 1 + 1, 3, none⟩ (.int .i64 fw)).setCell ⟨w.heap.size + 1 + 1, 4, none⟩ (.int .i64 lg)).setCell ⟨w.heap.size + 1 + 1, 5, none⟩ (.slice oa k oc)) ∧ Box ((((((wr.setCell ⟨w.heap.size + 1 + 1, 0, none⟩ (.bool true)).setCell ⟨w.heap.size + 1 + 1, 1, none⟩ (.int .i64 (fq : Int))).setCell ⟨w.heap.size + 1 + 1, 2, none⟩ (.int .i64 fa)).setCell ⟨w.heap.size + 1 + 1, 3, none⟩ (.int .i64 fw)).setCell ⟨w.heap.size + 1 + 1, 4, none⟩ (.int .i64 lg)).setCell ⟨w.heap.size + 1 + 1, 5, none⟩ (.slice oa k oc)) (w.heap.size) 40 #[.slice pa v.n pc, .slice ja v.m jc] ∧ Box ((((((wr.setCell ⟨w.heap.size + 1 + 1, 0, none⟩ (.bool true)).setCell ⟨w.heap.size + 1 + 1, 1, none⟩ (.int .i64 (fq : Int))).setCell ⟨w.heap.size + 1 + 1, 2, none⟩ (.int .i64 fa)).setCell ⟨w.heap.size + 1 + 1, 3, none⟩ (.int .i64 fw)).setCell ⟨w.heap.size + 1 + 1, 4, none⟩ (.int .i64 lg)).setCell ⟨w.heap.size + 1 + 1, 5, none⟩ (.slice oa k oc)) (w.heap.size + 1) 30 #[.int .i64 (fq : Int), .int .i64 fa, .int .i64 fw] ∧ Box ((((((wr.setCell ⟨w.heap.size + 1 + 1, 0, none⟩ (.bool true)).setCell ⟨w.heap.size + 1 + 1, 1, none⟩ (.int .i64 (fq : Int))).setCell ⟨w.heap.size + 1 + 1, 2, none⟩ (.int .i64 fa)).setCell ⟨w.heap.size + 1 + 1, 3, none⟩ (.int .i64 fw)).setCell ⟨w.heap.size + 1 + 1, 4, none⟩ (.int .i64 lg)).setCell ⟨w.heap.size + 1 + 1, 5, none⟩ (.slice oa k oc)) (w.heap.size + 1 + 1) 35 #[.bool true, .int .i64 (fq : Int), .int .i64 fa, .int .i64 fw, .int .i64 lg, .slice oa k oc] ∧ Box ((((((wr.setCell ⟨w.heap.size + 1 + 1, 0, none⟩ (.bool true)).setCell ⟨w.heap.size + 1 + 1, 1, none⟩ (.int .i64 (fq : Int))).setCell ⟨w.heap.size + 1 + 1, 2, none⟩ (.int .i64 fa)).setCell ⟨w.heap.size + 1 + 1, 3, none⟩ (.int .i64 fw)).setCell ⟨w.heap.size + 1 + 1, 4, none⟩ (.int .i64 lg)).setCell ⟨w.heap.size + 1 + 1, 5, none⟩ (.slice oa k oc)) (tb) 33 #[.int .i64 (fq : Int), .int .i64 fa, .int .i64 fw, .int .i64 lg, .slice oa k oc] ∧ Box ((((((wr.setCell ⟨w.heap.size + 1 + 1, 0, none⟩ (.bool true)).setCell ⟨w.heap.size + 1 + 1, 1, none⟩ (.int .i64 (fq : Int))).setCell ⟨w.heap.size + 1 + 1, 2, none⟩ (.int .i64 fa)).setCell ⟨w.heap.size + 1 + 1, 3, none⟩ (.int .i64 fw)).setCell ⟨w.heap.size + 1 + 1, 4, none⟩ (.int .i64 lg)).setCell ⟨w.heap.size + 1 + 1, 5, none⟩ (.slice oa k oc)) (aq) 74 #[.int .i64 (sp : Int), .int .i64 wy] ∧ V6.heap.size ≤ ((((((wr.setCell ⟨w.heap.size + 1 + 1, 0, none⟩ (.bool true)).setCell ⟨w.heap.size + 1 + 1, 1, none⟩ (.int .i64 (fq : Int))).setCell ⟨w.heap.size + 1 + 1, 2, none⟩ (.int .i64 fa)).setCell ⟨w.heap.size + 1 + 1, 3, none⟩ (.int .i64 fw)).setCell ⟨w.heap.size + 1 + 1, 4, none⟩ (.int .i64 lg)).setCell ⟨w.heap.size + 1 + 1, 5, none⟩ (.slice oa k oc)).heap.size ∧ VOwn V6.heap.size 74 2 ((((((wr.setCell ⟨w.heap.size + 1 + 1, 0, none⟩ (.bool true)).setCell ⟨w.heap.size + 1 + 1, 1, none⟩ (.int .i64 (fq : Int))).setCell ⟨w.heap.size + 1 + 1, 2, none⟩ (.int .i64 fa)).setCell ⟨w.heap.size + 1 + 1, 3, none⟩ (.int .i64 fw)).setCell ⟨w.heap.size + 1 + 1, 4, none⟩ (.int .i64 lg)).setCell ⟨w.heap.size + 1 + 1, 5, none⟩ (.slice oa k oc)) (.slice oa k oc) k (intF (plB v L fq fw))) := ⟨((((((D.out.1.setCell (Nat.le_add_right _ 2) _).setCell (Nat.le_add_right _ 2) _).setCell (Nat.le_add_right _ 2) _).setCell (Nat.le_add_right _ 2) _).setCell (Nat.le_add_right _ 2) _).setCell (Nat.le_add_right _ 2) _), ((((((D.out.2.1.other (box_ne D.out.2.1 D.out.2.2.2.1 (by decide)) _).other (box_ne D.out.2.1 D.out.2.2.2.1 (by decide)) _).other (box_ne D.out.2.1 D.out.2.2.2.1 (by decide)) _).other (box_ne D.out.2.1 D.out.2.2.2.1 (by decide)) _).other (box_ne D.out.2.1 D.out.2.2.2.1 (by decide)) _).other (box_ne D.out.2.1 D.out.2.2.2.1 (by decide)) _), ((((((D.out.2.2.1.other (box_ne D.out.2.2.1 D.out.2.2.2.1 (by decide)) _).other (box_ne D.out.2.2.1 D.out.2.2.2.1 (by decide)) _).other (box_ne D.out.2.2.1 D.out.2.2.2.1 (by decide)) _).other (box_ne D.out.2.2.1 D.out.2.2.2.1 (by decide)) _).other (box_ne D.out.2.2.1 D.out.2.2.2.1 (by decide)) _).other (box_ne D.out.2.2.1 D.out.2.2.2.1 (by decide)) _), by have h9 := ((((((D.out.2.2.2.1.set 0 (.bool true)).set 1 (.int .i64 (fq : Int))).set 2 (.int .i64 fa)).set 3 (.int .i64 fw)).set 4 (.int .i64 lg)).set 5 (.slice oa k oc)); exact h9, ((((((D.out.2.2.2.2.1.other (box_ne D.out.2.2.2.2.1 D.out.2.2.2.1 (by decide)) _).other (box_ne D.out.2.2.2.2.1 D.out.2.2.2.1 (by decide)) _).other (box_ne D.out.2.2.2.2.1 D.out.2.2.2.1 (by decide)) _).other (box_ne D.out.2.2.2.2.1 D.out.2.2.2.1 (by decide)) _).other (box_ne D.out.2.2.2.2.1 D.out.2.2.2.1 (by decide)) _).other (box_ne D.out.2.2.2.2.1 D.out.2.2.2.1 (by decide)) _), ((((((D.out.2.2.2.2.2.1.other (box_ne D.out.2.2.2.2.2.1 D.out.2.2.2.1 (by decide)) _).other (box_ne D.out.2.2.2.2.2.1 D.out.2.2.2.1 (by decide)) _).other (box_ne D.out.2.2.2.2.2.1 D.out.2.2.2.1 (by decide)) _).other (box_ne D.out.2.2.2.2.2.1 D.out.2.2.2.1 (by decide)) _).other (box_ne D.out.2.2.2.2.2.1 D.out.2.2.2.1 (by decide)) _).other (box_ne D.out.2.2.2.2.2.1 D.out.2.2.2.1 (by decide)) _), (Nat.le_trans (Nat.le_trans (Nat.le_trans (Nat.le_trans (Nat.le_trans (Nat.le_trans D.out.2.2.2.2.2.2.1 (Nat.le_of_eq (size_setc _ _ _).symm)) (Nat.le_of_eq (size_setc _ _ _).symm)) (Nat.le_of_eq (size_setc _ _ _).symm)) (Nat.le_of_eq (size_setc _ _ _).symm)) (Nat.le_of_eq (size_setc _ _ _).symm)) (Nat.le_of_eq (size_setc _ _ _).symm)), ((((((D.out.2.2.2.2.2.2.2.set D.out.2.2.2.1 (by decide) 0 _).set (D.out.2.2.2.1.set 0 (.bool true)) (by decide) 1 _).set ((D.out.2.2.2.1.set 0 (.bool true)).set 1 (.int .i64 (fq : Int))) (by decide) 2 _).set (((D.out.2.2.2.1.set 0 (.bool true)).set 1 (.int .i64 (fq : Int))).set 2 (.int .i64 fa)) (by decide) 3 _).set ((((D.out.2.2.2.1.set 0 (.bool true)).set 1 (.int .i64 (fq : Int))).set 2 (.int .i64 fa)).set 3 (.int .i64 fw)) (by decide) 4 _).set (((((D.out.2.2.2.1.set 0 (.bool true)).set 1 (.int .i64 (fq : Int))).set 2 (.int .i64 fa)).set 3 (.int .i64 fw)).set 4 (.int .i64 lg)) (by decide) 5 _)⟩
      clear D
      go_wp2_with fail
      clear a0 a1 a2 a3 a4 z0 z1 z2 z3 z4 z5 zf0 zf1 zf2 zf3 zf4 zf5
      generalize ((((((wr.setCell ⟨w.heap.size + 1 + 1, 0, none⟩ (.bool true)).setCell ⟨w.heap.size + 1 + 1, 1, none⟩ (.int .i64 (fq : Int))).setCell ⟨w.heap.size + 1 + 1, 2, none⟩ (.int .i64 fa)).setCell ⟨w.heap.size + 1 + 1, 3, none⟩ (.int .i64 fw)).setCell ⟨w.heap.size + 1 + 1, 4, none⟩ (.int .i64 lg)).setCell ⟨w.heap.size + 1 + 1, 5, none⟩ (.slice oa k oc)) = W9 at MA32 ⊢
      have z0 : W9.cell? ⟨w.heap.size + 1 + 1, 0, none⟩ = some (.bool true) := MA32.out.2.2.2.1.cell 0
      have z1 : W9.cell? ⟨w.heap.size + 1 + 1, 1, none⟩ = some (.int .i64 (fq : Int)) := MA32.out.2.2.2.1.cell 1
      have z2 : W9.cell? ⟨w.heap.size + 1 + 1, 2, none⟩ = some (.int .i64 fa) := MA32.out.2.2.2.1.cell 2
      have z3 : W9.cell? ⟨w.heap.size + 1 + 1, 3, none⟩ = some (.int .i64 fw) := MA32.out.2.2.2.1.cell 3
      have z4 : W9.cell? ⟨w.heap.size + 1 + 1, 4, none⟩ = some (.int .i64 lg) := MA32.out.2.2.2.1.cell 4
      have z5 : W9.cell? ⟨w.heap.size + 1 + 1, 5, none⟩ = some (.slice oa k oc) := MA32.out.2.2.2.1.cell 5
      exact bodyPost_ret (v := .agg #[.bool true, .int .i64 (fq : Int), .int .i64 fa, .int .i64 fw, .int .i64 lg, .slice oa k oc]) (by simp [results, Tryz.results7, go_sem, z0, z1, z2, z3, z4, z5]) rfl (pl_yes HSM.out rfl (MA32.out.2.2.2.2.2.2.2.keep HV6.out (fun _ _ => rfl)) MA32.out.1)

end Go.Proofs.YtjhmaofjmalglaaGreat
