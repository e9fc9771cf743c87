import Derived.Test.YtjhmaofjmalglaaGreatPc
namespace Go.Proofs.YtjhmaofjmalglaaGreat
open Go.RowKit Go.Lib

def lenAt : Option Value → Nat
  | some (.slice _ n _) => n
  | _ => 0
theorem nd_on {h : Nat → Int} {lg : Int} {k z : Nat} (h3 : z ≤ k → lg ≤ h z) (hl : ∀ i, i < k → h i < lg) (hk : h k < lg) : (k : Int) < (z : Int) := by
  have : ¬ z ≤ k := fun hh => by
    have h8 := h3 hh
    by_cases c : z = k
    · rw [c] at h8; omega
    · have := hl z (by omega); omega
  omega
set_option maxRecDepth 100000 in
set_option maxHeartbeats 16000000 in
theorem implPlace11 {v : Nv} (pa : Option Addr) (pc : Nat) (ja : Option Addr) (jc : Nat) (la : Option Addr) (nl lc : Nat) (L : Nat → Int) (fp fa fw lg : Int) (w : World) (hn : v.n ≤ 1048576) (hm : v.m ≤ 1048576) (hnl : nl ≤ 1048576) (hpc : v.n ≤ pc) (hpm : pc ≤ maxLen) (hjc : v.m ≤ jc) (hjm : jc ≤ maxLen) (hP : PsAt 0 w pa v.n v.P) (hJ : JsAt 0 w ja v.m v.J) (hps : ∀ i, i < v.n → (v.P i).nm.size ≤ maxLen) (hjs : ∀ i, i < v.m → (v.J i).ne ≤ 1048576 ∧ (v.J i).nm.size ≤ maxLen) (hL : IsAt 0 w la nl L) :
    Calls Tryz.prog 11 #[.agg #[.slice pa v.n pc, .slice ja v.m jc], .slice la nl lc, .agg #[.int .i64 fp, .int .i64 fa, .int .i64 fw], .int .i64 lg] w fun e w' => PlR w (plO v nl L fp fa fw lg) fp fa fw lg (plB v L fp.toNat fw) e w' := by
  have H : Hid (PsAt 0 w pa v.n v.P ∧ JsAt 0 w ja v.m v.J ∧ (∀ i, i < v.n → (v.P i).nm.size ≤ maxLen) ∧ (∀ i, i < v.m → (v.J i).ne ≤ 1048576 ∧ (v.J i).nm.size ≤ maxLen) ∧ IsAt 0 w la nl L) := ⟨hP, hJ, hps, hjs, hL⟩
  have S0 : Hid (Below w.heap.size w (((w.alloc (.cells #[.slice pa v.n pc, .slice ja v.m jc] 40)).alloc (.cells #[.int .i64 fp, .int .i64 fa, .int .i64 fw] 30)).alloc (.cells #[.bool false, .int .i64 0, .int .i64 0, .int .i64 0, .int .i64 0, .slice none 0 0] 35)) ∧ Box (((w.alloc (.cells #[.slice pa v.n pc, .slice ja v.m jc] 40)).alloc (.cells #[.int .i64 fp, .int .i64 fa, .int .i64 fw] 30)).alloc (.cells #[.bool false, .int .i64 0, .int .i64 0, .int .i64 0, .int .i64 0, .slice none 0 0] 35)) (w.heap.size) 40 #[.slice pa v.n pc, .slice ja v.m jc] ∧ Box (((w.alloc (.cells #[.slice pa v.n pc, .slice ja v.m jc] 40)).alloc (.cells #[.int .i64 fp, .int .i64 fa, .int .i64 fw] 30)).alloc (.cells #[.bool false, .int .i64 0, .int .i64 0, .int .i64 0, .int .i64 0, .slice none 0 0] 35)) (w.heap.size + 1) 30 #[.int .i64 fp, .int .i64 fa, .int .i64 fw] ∧ Box (((w.alloc (.cells #[.slice pa v.n pc, .slice ja v.m jc] 40)).alloc (.cells #[.int .i64 fp, .int .i64 fa, .int .i64 fw] 30)).alloc (.cells #[.bool false, .int .i64 0, .int .i64 0, .int .i64 0, .int .i64 0, .slice none 0 0] 35)) (w.heap.size + 1 + 1) 35 #[.bool false, .int .i64 0, .int .i64 0, .int .i64 0, .int .i64 0, .slice none 0 0]) := ⟨((Below.refl _ _).alloc (Nat.le_refl _) _ |>.alloc (by simp) _ |>.alloc (by simp; omega) _), (((Box.new w 40 #[.slice pa v.n pc, .slice ja v.m jc]).alloc (.cells #[.int .i64 fp, .int .i64 fa, .int .i64 fw] 30)).alloc (.cells #[.bool false, .int .i64 0, .int .i64 0, .int .i64 0, .int .i64 0, .slice none 0 0] 35)), by have := ((Box.new (w.alloc (.cells #[.slice pa v.n pc, .slice ja v.m jc] 40)) 30 #[.int .i64 fp, .int .i64 fa, .int .i64 fw]).alloc (.cells #[.bool false, .int .i64 0, .int .i64 0, .int .i64 0, .int .i64 0, .slice none 0 0] 35)); simpa using this, by have := (Box.new ((w.alloc (.cells #[.slice pa v.n pc, .slice ja v.m jc] 40)).alloc (.cells #[.int .i64 fp, .int .i64 fa, .int .i64 fw] 30)) 35 #[.bool false, .int .i64 0, .int .i64 0, .int .i64 0, .int .i64 0, .slice none 0 0]); simpa using this⟩
  clear hP hJ hps hjs hL
  obtain ⟨u1, HU1⟩ : ∃ u, Hid (liesF v.n v.P v.m v.J nl L = u) := ⟨_, rfl⟩
  obtain ⟨u2, HU2⟩ : ∃ u, Hid (spotB v fp fa fw = u) := ⟨_, rfl⟩
  obtain ⟨u3, HU3⟩ : ∃ u, Hid (inB lg 1 100000 = u) := ⟨_, rfl⟩
  go_enter Tryz.func11, Tryz.ntmps11
  go_upto_region 1 with fail
  generalize (((w.alloc (.cells #[.slice pa v.n pc, .slice ja v.m jc] 40)).alloc (.cells #[.int .i64 fp, .int .i64 fa, .int .i64 fw] 30)).alloc (.cells #[.bool false, .int .i64 0, .int .i64 0, .int .i64 0, .int .i64 0, .slice none 0 0] 35)) = V0 at S0 ⊢
  have a0 : V0.cell? ⟨w.heap.size, 0, none⟩ = some (.slice pa v.n pc) := S0.out.2.1.cell 0
  have a1 : V0.cell? ⟨w.heap.size, 1, none⟩ = some (.slice ja v.m jc) := S0.out.2.1.cell 1
  have b0 : V0.cell? ⟨w.heap.size + 1, 0, none⟩ = some (.int .i64 fp) := S0.out.2.2.1.cell 0
  have b1 : V0.cell? ⟨w.heap.size + 1, 1, none⟩ = some (.int .i64 fa) := S0.out.2.2.1.cell 1
  have b2 : V0.cell? ⟨w.heap.size + 1, 2, none⟩ = some (.int .i64 fw) := S0.out.2.2.1.cell 2
  go_wp2_with fail
  clear a0 a1 b0 b1 b2
  refine (impl11 pa v.n pc v.P ja v.m jc v.J la nl lc L V0 hn hm hnl hpc hpm hjc hjm (H.out.1.mono (Nat.le_refl _) S0.out.1 (Nat.le_refl _)) (H.out.2.1.mono (Nat.le_refl _) S0.out.1 (Nat.le_refl _)) H.out.2.2.1 H.out.2.2.2.1 (H.out.2.2.2.2.mono (Nat.le_refl _) S0.out.1 (Nat.le_refl _))).mono ?_
  rintro e w1 ⟨he, hb⟩
  rw [HU1.out] at he
  subst he
  have MA61 : Hid (Below w.heap.size w w1 ∧ Box w1 (w.heap.size) 40 #[.slice pa v.n pc, .slice ja v.m jc] ∧ Box w1 (w.heap.size + 1) 30 #[.int .i64 fp, .int .i64 fa, .int .i64 fw] ∧ Box w1 (w.heap.size + 1 + 1) 35 #[.bool false, .int .i64 0, .int .i64 0, .int .i64 0, .int .i64 0, .slice none 0 0]) := ⟨S0.out.1.trans (hb.mono S0.out.1.size), S0.out.2.1.mono hb (Nat.le_refl _), S0.out.2.2.1.mono hb (Nat.le_refl _), S0.out.2.2.2.mono hb (Nat.le_refl _)⟩
  clear hb S0
  cases u1 with
  | false =>
    have HN : Hid (plO v nl L fp fa fw lg = none) := by rw [plO, HU1.out]; rfl
    have z0 : w1.cell? ⟨w.heap.size + 1 + 1, 0, none⟩ = some (.bool false) := MA61.out.2.2.2.cell 0
    have z1 : w1.cell? ⟨w.heap.size + 1 + 1, 1, none⟩ = some (.int .i64 0) := MA61.out.2.2.2.cell 1
    have z2 : w1.cell? ⟨w.heap.size + 1 + 1, 2, none⟩ = some (.int .i64 0) := MA61.out.2.2.2.cell 2
    have z3 : w1.cell? ⟨w.heap.size + 1 + 1, 3, none⟩ = some (.int .i64 0) := MA61.out.2.2.2.cell 3
    have z4 : w1.cell? ⟨w.heap.size + 1 + 1, 4, none⟩ = some (.int .i64 0) := MA61.out.2.2.2.cell 4
    have z5 : w1.cell? ⟨w.heap.size + 1 + 1, 5, none⟩ = some (.slice none 0 0) := MA61.out.2.2.2.cell 5
    have zf0 := MA61.out.2.2.2.free 0
    have zf1 := MA61.out.2.2.2.free 1
    have zf2 := MA61.out.2.2.2.free 2
    have zf3 := MA61.out.2.2.2.free 3
    have zf4 := MA61.out.2.2.2.free 4
    have zf5 := MA61.out.2.2.2.free 5
    have MA64 : Hid (Below w.heap.size w ((((((w1.setCell ⟨w.heap.size + 1 + 1, 0, none⟩ (.bool false)).setCell ⟨w.heap.size + 1 + 1, 1, none⟩ (.int .i64 0)).setCell ⟨w.heap.size + 1 + 1, 2, none⟩ (.int .i64 0)).setCell ⟨w.heap.size + 1 + 1, 3, none⟩ (.int .i64 0)).setCell ⟨w.heap.size + 1 + 1, 4, none⟩ (.int .i64 0)).setCell ⟨w.heap.size + 1 + 1, 5, none⟩ (.slice none 0 0)) ∧ Box ((((((w1.setCell ⟨w.heap.size + 1 + 1, 0, none⟩ (.bool false)).setCell ⟨w.heap.size + 1 + 1, 1, none⟩ (.int .i64 0)).setCell ⟨w.heap.size + 1 + 1, 2, none⟩ (.int .i64 0)).setCell ⟨w.heap.size + 1 + 1, 3, none⟩ (.int .i64 0)).setCell ⟨w.heap.size + 1 + 1, 4, none⟩ (.int .i64 0)).setCell ⟨w.heap.size + 1 + 1, 5, none⟩ (.slice none 0 0)) (w.heap.size) 40 #[.slice pa v.n pc, .slice ja v.m jc] ∧ Box ((((((w1.setCell ⟨w.heap.size + 1 + 1, 0, none⟩ (.bool false)).setCell ⟨w.heap.size + 1 + 1, 1, none⟩ (.int .i64 0)).setCell ⟨w.heap.size + 1 + 1, 2, none⟩ (.int .i64 0)).setCell ⟨w.heap.size + 1 + 1, 3, none⟩ (.int .i64 0)).setCell ⟨w.heap.size + 1 + 1, 4, none⟩ (.int .i64 0)).setCell ⟨w.heap.size + 1 + 1, 5, none⟩ (.slice none 0 0)) (w.heap.size + 1) 30 #[.int .i64 fp, .int .i64 fa, .int .i64 fw] ∧ Box ((((((w1.setCell ⟨w.heap.size + 1 + 1, 0, none⟩ (.bool false)).setCell ⟨w.heap.size + 1 + 1, 1, none⟩ (.int .i64 0)).setCell ⟨w.heap.size + 1 + 1, 2, none⟩ (.int .i64 0)).setCell ⟨w.heap.size + 1 + 1, 3, none⟩ (.int .i64 0)).setCell ⟨w.heap.size + 1 + 1, 4, none⟩ (.int .i64 0)).setCell ⟨w.heap.size + 1 + 1, 5, none⟩ (.slice none 0 0)) (w.heap.size + 1 + 1) 35 #[.bool false, .int .i64 0, .int .i64 0, .int .i64 0, .int .i64 0, .slice none 0 0]) := ⟨((((((MA61.out.1.setCell (Nat.le_add_right _ 2) _).setCell (Nat.le_add_right _ 2) _).setCell (Nat.le_add_right _ 2) _).setCell (Nat.le_add_right _ 2) _).setCell (Nat.le_add_right _ 2) _).setCell (Nat.le_add_right _ 2) _), ((((((MA61.out.2.1.other (box_ne MA61.out.2.1 MA61.out.2.2.2 (by decide)) _).other (box_ne MA61.out.2.1 MA61.out.2.2.2 (by decide)) _).other (box_ne MA61.out.2.1 MA61.out.2.2.2 (by decide)) _).other (box_ne MA61.out.2.1 MA61.out.2.2.2 (by decide)) _).other (box_ne MA61.out.2.1 MA61.out.2.2.2 (by decide)) _).other (box_ne MA61.out.2.1 MA61.out.2.2.2 (by decide)) _), ((((((MA61.out.2.2.1.other (box_ne MA61.out.2.2.1 MA61.out.2.2.2 (by decide)) _).other (box_ne MA61.out.2.2.1 MA61.out.2.2.2 (by decide)) _).other (box_ne MA61.out.2.2.1 MA61.out.2.2.2 (by decide)) _).other (box_ne MA61.out.2.2.1 MA61.out.2.2.2 (by decide)) _).other (box_ne MA61.out.2.2.1 MA61.out.2.2.2 (by decide)) _).other (box_ne MA61.out.2.2.1 MA61.out.2.2.2 (by decide)) _), by have h9 := ((((((MA61.out.2.2.2.set 0 (.bool false)).set 1 (.int .i64 0)).set 2 (.int .i64 0)).set 3 (.int .i64 0)).set 4 (.int .i64 0)).set 5 (.slice none 0 0)); exact h9⟩
    clear MA61
    go_wp2_with fail
    clear z0 z1 z2 z3 z4 z5 zf0 zf1 zf2 zf3 zf4 zf5
    generalize ((((((w1.setCell ⟨w.heap.size + 1 + 1, 0, none⟩ (.bool false)).setCell ⟨w.heap.size + 1 + 1, 1, none⟩ (.int .i64 0)).setCell ⟨w.heap.size + 1 + 1, 2, none⟩ (.int .i64 0)).setCell ⟨w.heap.size + 1 + 1, 3, none⟩ (.int .i64 0)).setCell ⟨w.heap.size + 1 + 1, 4, none⟩ (.int .i64 0)).setCell ⟨w.heap.size + 1 + 1, 5, none⟩ (.slice none 0 0)) = W9 at MA64 ⊢
    have z0 : W9.cell? ⟨w.heap.size + 1 + 1, 0, none⟩ = some (.bool false) := MA64.out.2.2.2.cell 0
    have z1 : W9.cell? ⟨w.heap.size + 1 + 1, 1, none⟩ = some (.int .i64 0) := MA64.out.2.2.2.cell 1
    have z2 : W9.cell? ⟨w.heap.size + 1 + 1, 2, none⟩ = some (.int .i64 0) := MA64.out.2.2.2.cell 2
    have z3 : W9.cell? ⟨w.heap.size + 1 + 1, 3, none⟩ = some (.int .i64 0) := MA64.out.2.2.2.cell 3
    have z4 : W9.cell? ⟨w.heap.size + 1 + 1, 4, none⟩ = some (.int .i64 0) := MA64.out.2.2.2.cell 4
    have z5 : W9.cell? ⟨w.heap.size + 1 + 1, 5, none⟩ = some (.slice none 0 0) := MA64.out.2.2.2.cell 5
    exact bodyPost_ret (v := .agg #[.bool false, .int .i64 0, .int .i64 0, .int .i64 0, .int .i64 0, .slice none 0 0]) (by simp [results, Tryz.results11, go_sem, z0, z1, z2, z3, z4, z5]) rfl (pl_no HN.out rfl MA64.out.1)
  | true =>
  have OK : Hid (v.Ok ∧ nl = v.m ∧ ∀ i, i < v.m → lieB v.J L i = true) := ⟨nvOk (by exact lies_ok HU1.out), lies_parts HU1.out⟩
  have a0 : w1.cell? ⟨w.heap.size, 0, none⟩ = some (.slice pa v.n pc) := MA61.out.2.1.cell 0
  have a1 : w1.cell? ⟨w.heap.size, 1, none⟩ = some (.slice ja v.m jc) := MA61.out.2.1.cell 1
  have b0 : w1.cell? ⟨w.heap.size + 1, 0, none⟩ = some (.int .i64 fp) := MA61.out.2.2.1.cell 0
  have b1 : w1.cell? ⟨w.heap.size + 1, 1, none⟩ = some (.int .i64 fa) := MA61.out.2.2.1.cell 1
  have b2 : w1.cell? ⟨w.heap.size + 1, 2, none⟩ = some (.int .i64 fw) := MA61.out.2.2.1.cell 2
  go_wp2_with fail
  clear a0 a1 b0 b1 b2
  refine (isSpot66 OK.out.1 pa pc ja jc fp fa fw w1 (H.out.1.mono (Nat.le_refl _) MA61.out.1 (Nat.le_refl _))).mono ?_
  rintro e w2 ⟨he, hb⟩
  rw [HU2.out] at he
  subst he
  have MA62 : Hid (Below w.heap.size w w2 ∧ Box w2 (w.heap.size) 40 #[.slice pa v.n pc, .slice ja v.m jc] ∧ Box w2 (w.heap.size + 1) 30 #[.int .i64 fp, .int .i64 fa, .int .i64 fw] ∧ Box w2 (w.heap.size + 1 + 1) 35 #[.bool false, .int .i64 0, .int .i64 0, .int .i64 0, .int .i64 0, .slice none 0 0]) := ⟨MA61.out.1.trans (hb.mono MA61.out.1.size), MA61.out.2.1.mono hb (Nat.le_refl _), MA61.out.2.2.1.mono hb (Nat.le_refl _), MA61.out.2.2.2.mono hb (Nat.le_refl _)⟩
  clear hb MA61
  cases u2 with
  | false =>
    have HN : Hid (plO v nl L fp fa fw lg = none) := by rw [plO, HU1.out, HU2.out]; rfl
    have z0 : w2.cell? ⟨w.heap.size + 1 + 1, 0, none⟩ = some (.bool false) := MA62.out.2.2.2.cell 0
    have z1 : w2.cell? ⟨w.heap.size + 1 + 1, 1, none⟩ = some (.int .i64 0) := MA62.out.2.2.2.cell 1
    have z2 : w2.cell? ⟨w.heap.size + 1 + 1, 2, none⟩ = some (.int .i64 0) := MA62.out.2.2.2.cell 2
    have z3 : w2.cell? ⟨w.heap.size + 1 + 1, 3, none⟩ = some (.int .i64 0) := MA62.out.2.2.2.cell 3
    have z4 : w2.cell? ⟨w.heap.size + 1 + 1, 4, none⟩ = some (.int .i64 0) := MA62.out.2.2.2.cell 4
    have z5 : w2.cell? ⟨w.heap.size + 1 + 1, 5, none⟩ = some (.slice none 0 0) := MA62.out.2.2.2.cell 5
    have zf0 := MA62.out.2.2.2.free 0
    have zf1 := MA62.out.2.2.2.free 1
    have zf2 := MA62.out.2.2.2.free 2
    have zf3 := MA62.out.2.2.2.free 3
    have zf4 := MA62.out.2.2.2.free 4
    have zf5 := MA62.out.2.2.2.free 5
    have MA65 : Hid (Below w.heap.size w ((((((w2.setCell ⟨w.heap.size + 1 + 1, 0, none⟩ (.bool false)).setCell ⟨w.heap.size + 1 + 1, 1, none⟩ (.int .i64 0)).setCell ⟨w.heap.size + 1 + 1, 2, none⟩ (.int .i64 0)).setCell ⟨w.heap.size + 1 + 1, 3, none⟩ (.int .i64 0)).setCell ⟨w.heap.size + 1 + 1, 4, none⟩ (.int .i64 0)).setCell ⟨w.heap.size + 1 + 1, 5, none⟩ (.slice none 0 0)) ∧ Box ((((((w2.setCell ⟨w.heap.size + 1 + 1, 0, none⟩ (.bool false)).setCell ⟨w.heap.size + 1 + 1, 1, none⟩ (.int .i64 0)).setCell ⟨w.heap.size + 1 + 1, 2, none⟩ (.int .i64 0)).setCell ⟨w.heap.size + 1 + 1, 3, none⟩ (.int .i64 0)).setCell ⟨w.heap.size + 1 + 1, 4, none⟩ (.int .i64 0)).setCell ⟨w.heap.size + 1 + 1, 5, none⟩ (.slice none 0 0)) (w.heap.size) 40 #[.slice pa v.n pc, .slice ja v.m jc] ∧ Box ((((((w2.setCell ⟨w.heap.size + 1 + 1, 0, none⟩ (.bool false)).setCell ⟨w.heap.size + 1 + 1, 1, none⟩ (.int .i64 0)).setCell ⟨w.heap.size + 1 + 1, 2, none⟩ (.int .i64 0)).setCell ⟨w.heap.size + 1 + 1, 3, none⟩ (.int .i64 0)).setCell ⟨w.heap.size + 1 + 1, 4, none⟩ (.int .i64 0)).setCell ⟨w.heap.size + 1 + 1, 5, none⟩ (.slice none 0 0)) (w.heap.size + 1) 30 #[.int .i64 fp, .int .i64 fa, .int .i64 fw] ∧ Box ((((((w2.setCell ⟨w.heap.size + 1 + 1, 0, none⟩ (.bool false)).setCell ⟨w.heap.size + 1 + 1, 1, none⟩ (.int .i64 0)).setCell ⟨w.heap.size + 1 + 1, 2, none⟩ (.int .i64 0)).setCell ⟨w.heap.size + 1 + 1, 3, none⟩ (.int .i64 0)).setCell ⟨w.heap.size + 1 + 1, 4, none⟩ (.int .i64 0)).setCell ⟨w.heap.size + 1 + 1, 5, none⟩ (.slice none 0 0)) (w.heap.size + 1 + 1) 35 #[.bool false, .int .i64 0, .int .i64 0, .int .i64 0, .int .i64 0, .slice none 0 0]) := ⟨((((((MA62.out.1.setCell (Nat.le_add_right _ 2) _).setCell (Nat.le_add_right _ 2) _).setCell (Nat.le_add_right _ 2) _).setCell (Nat.le_add_right _ 2) _).setCell (Nat.le_add_right _ 2) _).setCell (Nat.le_add_right _ 2) _), ((((((MA62.out.2.1.other (box_ne MA62.out.2.1 MA62.out.2.2.2 (by decide)) _).other (box_ne MA62.out.2.1 MA62.out.2.2.2 (by decide)) _).other (box_ne MA62.out.2.1 MA62.out.2.2.2 (by decide)) _).other (box_ne MA62.out.2.1 MA62.out.2.2.2 (by decide)) _).other (box_ne MA62.out.2.1 MA62.out.2.2.2 (by decide)) _).other (box_ne MA62.out.2.1 MA62.out.2.2.2 (by decide)) _), ((((((MA62.out.2.2.1.other (box_ne MA62.out.2.2.1 MA62.out.2.2.2 (by decide)) _).other (box_ne MA62.out.2.2.1 MA62.out.2.2.2 (by decide)) _).other (box_ne MA62.out.2.2.1 MA62.out.2.2.2 (by decide)) _).other (box_ne MA62.out.2.2.1 MA62.out.2.2.2 (by decide)) _).other (box_ne MA62.out.2.2.1 MA62.out.2.2.2 (by decide)) _).other (box_ne MA62.out.2.2.1 MA62.out.2.2.2 (by decide)) _), by have h9 := ((((((MA62.out.2.2.2.set 0 (.bool false)).set 1 (.int .i64 0)).set 2 (.int .i64 0)).set 3 (.int .i64 0)).set 4 (.int .i64 0)).set 5 (.slice none 0 0)); exact h9⟩
    clear MA62
    go_wp2_with fail
    clear z0 z1 z2 z3 z4 z5 zf0 zf1 zf2 zf3 zf4 zf5
    generalize ((((((w2.setCell ⟨w.heap.size + 1 + 1, 0, none⟩ (.bool false)).setCell ⟨w.heap.size + 1 + 1, 1, none⟩ (.int .i64 0)).setCell ⟨w.heap.size + 1 + 1, 2, none⟩ (.int .i64 0)).setCell ⟨w.heap.size + 1 + 1, 3, none⟩ (.int .i64 0)).setCell ⟨w.heap.size + 1 + 1, 4, none⟩ (.int .i64 0)).setCell ⟨w.heap.size + 1 + 1, 5, none⟩ (.slice none 0 0)) = W9 at MA65 ⊢
    have z0 : W9.cell? ⟨w.heap.size + 1 + 1, 0, none⟩ = some (.bool false) := MA65.out.2.2.2.cell 0
    have z1 : W9.cell? ⟨w.heap.size + 1 + 1, 1, none⟩ = some (.int .i64 0) := MA65.out.2.2.2.cell 1
    have z2 : W9.cell? ⟨w.heap.size + 1 + 1, 2, none⟩ = some (.int .i64 0) := MA65.out.2.2.2.cell 2
    have z3 : W9.cell? ⟨w.heap.size + 1 + 1, 3, none⟩ = some (.int .i64 0) := MA65.out.2.2.2.cell 3
    have z4 : W9.cell? ⟨w.heap.size + 1 + 1, 4, none⟩ = some (.int .i64 0) := MA65.out.2.2.2.cell 4
    have z5 : W9.cell? ⟨w.heap.size + 1 + 1, 5, none⟩ = some (.slice none 0 0) := MA65.out.2.2.2.cell 5
    exact bodyPost_ret (v := .agg #[.bool false, .int .i64 0, .int .i64 0, .int .i64 0, .int .i64 0, .slice none 0 0]) (by simp [results, Tryz.results11, go_sem, z0, z1, z2, z3, z4, z5]) rfl (pl_no HN.out rfl MA65.out.1)
  | true =>
  go_wp2_with fail
  refine (within43 lg 1 100000 w2).mono ?_
  rintro e w3 ⟨he, hb⟩
  rw [HU3.out] at he
  subst he
  have hb2 : Below w2.heap.size w2 w3 := by rw [hb]; exact Below.refl _ _
  clear hb
  have hb := hb2
  clear hb2
  have MA63 : Hid (Below w.heap.size w w3 ∧ Box w3 (w.heap.size) 40 #[.slice pa v.n pc, .slice ja v.m jc] ∧ Box w3 (w.heap.size + 1) 30 #[.int .i64 fp, .int .i64 fa, .int .i64 fw] ∧ Box w3 (w.heap.size + 1 + 1) 35 #[.bool false, .int .i64 0, .int .i64 0, .int .i64 0, .int .i64 0, .slice none 0 0]) := ⟨MA62.out.1.trans (hb.mono MA62.out.1.size), MA62.out.2.1.mono hb (Nat.le_refl _), MA62.out.2.2.1.mono hb (Nat.le_refl _), MA62.out.2.2.2.mono hb (Nat.le_refl _)⟩
  clear hb MA62
  cases u3 with
  | false =>
    have HN : Hid (plO v nl L fp fa fw lg = none) := by rw [plO, HU1.out, HU2.out, HU3.out]; rfl
    have z0 : w3.cell? ⟨w.heap.size + 1 + 1, 0, none⟩ = some (.bool false) := MA63.out.2.2.2.cell 0
    have z1 : w3.cell? ⟨w.heap.size + 1 + 1, 1, none⟩ = some (.int .i64 0) := MA63.out.2.2.2.cell 1
    have z2 : w3.cell? ⟨w.heap.size + 1 + 1, 2, none⟩ = some (.int .i64 0) := MA63.out.2.2.2.cell 2
    have z3 : w3.cell? ⟨w.heap.size + 1 + 1, 3, none⟩ = some (.int .i64 0) := MA63.out.2.2.2.cell 3
    have z4 : w3.cell? ⟨w.heap.size + 1 + 1, 4, none⟩ = some (.int .i64 0) := MA63.out.2.2.2.cell 4
    have z5 : w3.cell? ⟨w.heap.size + 1 + 1, 5, none⟩ = some (.slice none 0 0) := MA63.out.2.2.2.cell 5
    have zf0 := MA63.out.2.2.2.free 0
    have zf1 := MA63.out.2.2.2.free 1
    have zf2 := MA63.out.2.2.2.free 2
    have zf3 := MA63.out.2.2.2.free 3
    have zf4 := MA63.out.2.2.2.free 4
    have zf5 := MA63.out.2.2.2.free 5
    have MA66 : Hid (Below w.heap.size w ((((((w3.setCell ⟨w.heap.size + 1 + 1, 0, none⟩ (.bool false)).setCell ⟨w.heap.size + 1 + 1, 1, none⟩ (.int .i64 0)).setCell ⟨w.heap.size + 1 + 1, 2, none⟩ (.int .i64 0)).setCell ⟨w.heap.size + 1 + 1, 3, none⟩ (.int .i64 0)).setCell ⟨w.heap.size + 1 + 1, 4, none⟩ (.int .i64 0)).setCell ⟨w.heap.size + 1 + 1, 5, none⟩ (.slice none 0 0)) ∧ Box ((((((w3.setCell ⟨w.heap.size + 1 + 1, 0, none⟩ (.bool false)).setCell ⟨w.heap.size + 1 + 1, 1, none⟩ (.int .i64 0)).setCell ⟨w.heap.size + 1 + 1, 2, none⟩ (.int .i64 0)).setCell ⟨w.heap.size + 1 + 1, 3, none⟩ (.int .i64 0)).setCell ⟨w.heap.size + 1 + 1, 4, none⟩ (.int .i64 0)).setCell ⟨w.heap.size + 1 + 1, 5, none⟩ (.slice none 0 0)) (w.heap.size) 40 #[.slice pa v.n pc, .slice ja v.m jc] ∧ Box ((((((w3.setCell ⟨w.heap.size + 1 + 1, 0, none⟩ (.bool false)).setCell ⟨w.heap.size + 1 + 1, 1, none⟩ (.int .i64 0)).setCell ⟨w.heap.size + 1 + 1, 2, none⟩ (.int .i64 0)).setCell ⟨w.heap.size + 1 + 1, 3, none⟩ (.int .i64 0)).setCell ⟨w.heap.size + 1 + 1, 4, none⟩ (.int .i64 0)).setCell ⟨w.heap.size + 1 + 1, 5, none⟩ (.slice none 0 0)) (w.heap.size + 1) 30 #[.int .i64 fp, .int .i64 fa, .int .i64 fw] ∧ Box ((((((w3.setCell ⟨w.heap.size + 1 + 1, 0, none⟩ (.bool false)).setCell ⟨w.heap.size + 1 + 1, 1, none⟩ (.int .i64 0)).setCell ⟨w.heap.size + 1 + 1, 2, none⟩ (.int .i64 0)).setCell ⟨w.heap.size + 1 + 1, 3, none⟩ (.int .i64 0)).setCell ⟨w.heap.size + 1 + 1, 4, none⟩ (.int .i64 0)).setCell ⟨w.heap.size + 1 + 1, 5, none⟩ (.slice none 0 0)) (w.heap.size + 1 + 1) 35 #[.bool false, .int .i64 0, .int .i64 0, .int .i64 0, .int .i64 0, .slice none 0 0]) := ⟨((((((MA63.out.1.setCell (Nat.le_add_right _ 2) _).setCell (Nat.le_add_right _ 2) _).setCell (Nat.le_add_right _ 2) _).setCell (Nat.le_add_right _ 2) _).setCell (Nat.le_add_right _ 2) _).setCell (Nat.le_add_right _ 2) _), ((((((MA63.out.2.1.other (box_ne MA63.out.2.1 MA63.out.2.2.2 (by decide)) _).other (box_ne MA63.out.2.1 MA63.out.2.2.2 (by decide)) _).other (box_ne MA63.out.2.1 MA63.out.2.2.2 (by decide)) _).other (box_ne MA63.out.2.1 MA63.out.2.2.2 (by decide)) _).other (box_ne MA63.out.2.1 MA63.out.2.2.2 (by decide)) _).other (box_ne MA63.out.2.1 MA63.out.2.2.2 (by decide)) _), ((((((MA63.out.2.2.1.other (box_ne MA63.out.2.2.1 MA63.out.2.2.2 (by decide)) _).other (box_ne MA63.out.2.2.1 MA63.out.2.2.2 (by decide)) _).other (box_ne MA63.out.2.2.1 MA63.out.2.2.2 (by decide)) _).other (box_ne MA63.out.2.2.1 MA63.out.2.2.2 (by decide)) _).other (box_ne MA63.out.2.2.1 MA63.out.2.2.2 (by decide)) _).other (box_ne MA63.out.2.2.1 MA63.out.2.2.2 (by decide)) _), by have h9 := ((((((MA63.out.2.2.2.set 0 (.bool false)).set 1 (.int .i64 0)).set 2 (.int .i64 0)).set 3 (.int .i64 0)).set 4 (.int .i64 0)).set 5 (.slice none 0 0)); exact h9⟩
    clear MA63
    go_wp2_with fail
    clear z0 z1 z2 z3 z4 z5 zf0 zf1 zf2 zf3 zf4 zf5
    generalize ((((((w3.setCell ⟨w.heap.size + 1 + 1, 0, none⟩ (.bool false)).setCell ⟨w.heap.size + 1 + 1, 1, none⟩ (.int .i64 0)).setCell ⟨w.heap.size + 1 + 1, 2, none⟩ (.int .i64 0)).setCell ⟨w.heap.size + 1 + 1, 3, none⟩ (.int .i64 0)).setCell ⟨w.heap.size + 1 + 1, 4, none⟩ (.int .i64 0)).setCell ⟨w.heap.size + 1 + 1, 5, none⟩ (.slice none 0 0)) = W9 at MA66 ⊢
    have z0 : W9.cell? ⟨w.heap.size + 1 + 1, 0, none⟩ = some (.bool false) := MA66.out.2.2.2.cell 0
    have z1 : W9.cell? ⟨w.heap.size + 1 + 1, 1, none⟩ = some (.int .i64 0) := MA66.out.2.2.2.cell 1
    have z2 : W9.cell? ⟨w.heap.size + 1 + 1, 2, none⟩ = some (.int .i64 0) := MA66.out.2.2.2.cell 2
    have z3 : W9.cell? ⟨w.heap.size + 1 + 1, 3, none⟩ = some (.int .i64 0) := MA66.out.2.2.2.cell 3
    have z4 : W9.cell? ⟨w.heap.size + 1 + 1, 4, none⟩ = some (.int .i64 0) := MA66.out.2.2.2.cell 4
    have z5 : W9.cell? ⟨w.heap.size + 1 + 1, 5, none⟩ = some (.slice none 0 0) := MA66.out.2.2.2.cell 5
    exact bodyPost_ret (v := .agg #[.bool false, .int .i64 0, .int .i64 0, .int .i64 0, .int .i64 0, .slice none 0 0]) (by simp [results, Tryz.results11, go_sem, z0, z1, z2, z3, z4, z5]) rfl (pl_no HN.out rfl MA66.out.1)
  | true =>
  obtain ⟨fq, rfl, hfq, hfw, hfa⟩ : ∃ q : Nat, fp = (q : Int) ∧ q < v.n ∧ (fw = 1 ∨ fw = -1) ∧ (0 ≤ fa ∧ fa ≤ (v.P q).ln) := spot_nat HU2.out
  obtain ⟨_, hnlm, _⟩ := OK.out
  subst hnlm
  have hlg : 1 ≤ lg ∧ lg ≤ 100000 := by have h9 := HU3.out; simp only [inB, Bool.and_eq_true, decide_eq_true_eq] at h9; exact h9
  obtain ⟨R, HR⟩ : ∃ R, Hid (plG (hvF v (fq : Int) fa fw (plB v L fq fw)) lg (plC v L fq fw) 200 0 = R) := ⟨_, rfl⟩
  have HO : Hid (plO v v.m L (fq : Int) fa fw lg = R) := by
    show _ = _
    rw [plO, HU1.out, HU2.out, HU3.out, ← HR.out]
    rfl
  obtain ⟨i0, hi0, hz0, hs0, hb0⟩ := info_parts infoStepZ
  have a0 : w3.cell? ⟨w.heap.size, 0, none⟩ = some (.slice pa v.n pc) := MA63.out.2.1.cell 0
  have a1 : w3.cell? ⟨w.heap.size, 1, none⟩ = some (.slice ja v.m jc) := MA63.out.2.1.cell 1
  go_wp2_with fail
  clear a0 a1
  refine (railsOf48 OK.out.1 pa pc ja jc la v.m lc w3 (H.out.1.mono (Nat.le_refl _) MA63.out.1 (Nat.le_refl _)) (H.out.2.1.mono (Nat.le_refl _) MA63.out.1 (Nat.le_refl _))).mono ?_
  rintro e w4 ⟨bt, sb, rfl, htk, hb⟩
  obtain ⟨n4, HN4⟩ : ∃ n, Hid (w4.heap.size = n) := ⟨_, rfl⟩
  have HTK : Hid (TkAt w4 bt sb v pa pc ja jc) := htk
  clear htk
  have MA67 : Hid (Below w.heap.size w w4 ∧ Box w4 (w.heap.size) 40 #[.slice pa v.n pc, .slice ja v.m jc] ∧ Box w4 (w.heap.size + 1) 30 #[.int .i64 (fq : Int), .int .i64 fa, .int .i64 fw] ∧ Box w4 (w.heap.size + 1 + 1) 35 #[.bool false, .int .i64 0, .int .i64 0, .int .i64 0, .int .i64 0, .slice none 0 0] ∧ Below n4 w4 w4) := ⟨MA63.out.1.trans (hb.mono MA63.out.1.size), MA63.out.2.1.mono hb (Nat.le_refl _), MA63.out.2.2.1.mono hb (Nat.le_refl _), MA63.out.2.2.2.mono hb (Nat.le_refl _), (by rw [← HN4.out]; exact Below.refl _ _)⟩
  clear hb MA63
  have MA68 : Hid (Below w.heap.size w (w4.alloc (.cells #[.pointer (some ⟨bt, 0, none⟩), .slice la v.m lc] 87)) ∧ Box (w4.alloc (.cells #[.pointer (some ⟨bt, 0, none⟩), .slice la v.m lc] 87)) (w.heap.size) 40 #[.slice pa v.n pc, .slice ja v.m jc] ∧ Box (w4.alloc (.cells #[.pointer (some ⟨bt, 0, none⟩), .slice la v.m lc] 87)) (w.heap.size + 1) 30 #[.int .i64 (fq : Int), .int .i64 fa, .int .i64 fw] ∧ Box (w4.alloc (.cells #[.pointer (some ⟨bt, 0, none⟩), .slice la v.m lc] 87)) (w.heap.size + 1 + 1) 35 #[.bool false, .int .i64 0, .int .i64 0, .int .i64 0, .int .i64 0, .slice none 0 0] ∧ Below n4 w4 (w4.alloc (.cells #[.pointer (some ⟨bt, 0, none⟩), .slice la v.m lc] 87)) ∧ Box (w4.alloc (.cells #[.pointer (some ⟨bt, 0, none⟩), .slice la v.m lc] 87)) (w4.heap.size) 87 #[.pointer (some ⟨bt, 0, none⟩), .slice la v.m lc]) := ⟨MA67.out.1.alloc MA67.out.1.size _, MA67.out.2.1.alloc _, MA67.out.2.2.1.alloc _, MA67.out.2.2.2.1.alloc _, MA67.out.2.2.2.2.alloc (Nat.le_trans (Nat.le_of_eq HN4.out.symm) MA67.out.2.2.2.2.size) _, Box.new _ _ _⟩
  have HL69 : Hid (w.heap.size ≤ w4.heap.size) := MA67.out.1.size
  have HL70 : Hid (n4 ≤ w4.heap.size) := (Nat.le_trans (Nat.le_of_eq HN4.out.symm) MA67.out.2.2.2.2.size)
  have HW4 : Hid (w.heap.size ≤ n4) := by rw [← HN4.out]; exact MA67.out.1.size
  go_upto_region 4 with fail
  clear MA67
  generalize w4.alloc (.cells #[.pointer (some ⟨bt, 0, none⟩), .slice la v.m lc] 87) = V5 at MA68 ⊢
  generalize w4.heap.size = rb at MA68 HL69 HL70 ⊢
  have a0 : V5.cell? ⟨w.heap.size + 1, 0, none⟩ = some (.int .i64 (fq : Int)) := MA68.out.2.2.1.cell 0
  have a1 : V5.cell? ⟨w.heap.size + 1, 1, none⟩ = some (.int .i64 fa) := MA68.out.2.2.1.cell 1
  have a2 : V5.cell? ⟨w.heap.size + 1, 2, none⟩ = some (.int .i64 fw) := MA68.out.2.2.1.cell 2
  have MA71 : Hid (Below w.heap.size w (V5.alloc (.cells #[.int .i64 (fq : Int), .int .i64 fa, .int .i64 fw, .int .i64 lg, .slice none 0 0] 90)) ∧ Box (V5.alloc (.cells #[.int .i64 (fq : Int), .int .i64 fa, .int .i64 fw, .int .i64 lg, .slice none 0 0] 90)) (w.heap.size) 40 #[.slice pa v.n pc, .slice ja v.m jc] ∧ Box (V5.alloc (.cells #[.int .i64 (fq : Int), .int .i64 fa, .int .i64 fw, .int .i64 lg, .slice none 0 0] 90)) (w.heap.size + 1) 30 #[.int .i64 (fq : Int), .int .i64 fa, .int .i64 fw] ∧ Box (V5.alloc (.cells #[.int .i64 (fq : Int), .int .i64 fa, .int .i64 fw, .int .i64 lg, .slice none 0 0] 90)) (w.heap.size + 1 + 1) 35 #[.bool false, .int .i64 0, .int .i64 0, .int .i64 0, .int .i64 0, .slice none 0 0] ∧ Below n4 w4 (V5.alloc (.cells #[.int .i64 (fq : Int), .int .i64 fa, .int .i64 fw, .int .i64 lg, .slice none 0 0] 90)) ∧ Box (V5.alloc (.cells #[.int .i64 (fq : Int), .int .i64 fa, .int .i64 fw, .int .i64 lg, .slice none 0 0] 90)) (rb) 87 #[.pointer (some ⟨bt, 0, none⟩), .slice la v.m lc] ∧ Box (V5.alloc (.cells #[.int .i64 (fq : Int), .int .i64 fa, .int .i64 fw, .int .i64 lg, .slice none 0 0] 90)) (V5.heap.size) 90 #[.int .i64 (fq : Int), .int .i64 fa, .int .i64 fw, .int .i64 lg, .slice none 0 0]) := ⟨MA68.out.1.alloc MA68.out.1.size _, MA68.out.2.1.alloc _, MA68.out.2.2.1.alloc _, MA68.out.2.2.2.1.alloc _, MA68.out.2.2.2.2.1.alloc (Nat.le_trans (Nat.le_of_eq HN4.out.symm) MA68.out.2.2.2.2.1.size) _, MA68.out.2.2.2.2.2.alloc _, Box.new _ _ _⟩
  have HL72 : Hid (w.heap.size ≤ V5.heap.size) := MA68.out.1.size
  have HL73 : Hid (n4 ≤ V5.heap.size) := (Nat.le_trans (Nat.le_of_eq HN4.out.symm) MA68.out.2.2.2.2.1.size)
  go_wp2_with fail
  clear a0 a1 a2 MA68
  generalize V5.alloc (.cells #[.int .i64 (fq : Int), .int .i64 fa, .int .i64 fw, .int .i64 lg, .slice none 0 0] 90) = V6 at MA71 ⊢
  generalize V5.heap.size = bq at MA71 HL72 HL73 ⊢
  go_loopw [] (fun wr => ∃ (k : Nat) (oa : Option Addr) (oc : Nat), k ≤ 200 ∧ Hid (plG (hvF v (fq : Int) fa fw (plB v L fq fw)) lg (plC v L fq fw) (200 - k) k = R) ∧ Hid (∀ i, i < k → plC v L fq fw i = 0) ∧ Hid (∀ i, i < k → hvF v (fq : Int) fa fw (plB v L fq fw) i < lg) ∧ Hid (Below w.heap.size w wr ∧ Box wr (w.heap.size) 40 #[.slice pa v.n pc, .slice ja v.m jc] ∧ Box wr (w.heap.size + 1) 30 #[.int .i64 (fq : Int), .int .i64 fa, .int .i64 fw] ∧ Box wr (w.heap.size + 1 + 1) 35 #[.bool false, .int .i64 0, .int .i64 0, .int .i64 0, .int .i64 0, .slice none 0 0] ∧ Below n4 w4 wr ∧ Box wr (rb) 87 #[.pointer (some ⟨bt, 0, none⟩), .slice la v.m lc] ∧ Box wr (bq) 90 #[.int .i64 (fq : Int), .int .i64 fa, .int .i64 fw, .int .i64 lg, .slice oa k oc] ∧ VOwn n4 74 2 wr (.slice oa k oc) k (intF (plB v L fq fw)))) (fun wr => 200 - lenAt (wr.cell? ⟨bq, 4, none⟩))
  case atStart => exact ⟨0, none, 0, by omega, HR, fun i hi => absurd hi (Nat.not_lt_zero _), fun i hi => absurd hi (Nat.not_lt_zero _), ⟨MA71.out.1, MA71.out.2.1, MA71.out.2.2.1, MA71.out.2.2.2.1, MA71.out.2.2.2.2.1, MA71.out.2.2.2.2.2.1, MA71.out.2.2.2.2.2.2, VOwn.nil _ _ _ _ _⟩⟩
  case round =>
    clear MA71
    obtain ⟨k, oa, oc, hk, HG, HC, HLT, D⟩ := hrel
    have HML : Hid (lenAt (wr.cell? ⟨bq, 4, none⟩) = k) := by show lenAt _ = _; rw [show wr.cell? ⟨bq, 4, none⟩ = some (.slice oa k oc) from D.out.2.2.2.2.2.2.1.cell 4]; rfl
    obtain ⟨sp, HSP⟩ : ∃ q, Hid ((plS v L fq fw k).1 = q) := ⟨_, rfl⟩
    obtain ⟨wy, HWY⟩ : ∃ q, Hid ((plS v L fq fw k).2 = q) := ⟨_, rfl⟩
    have hspn : sp < v.n := by rw [← HSP.out]; exact (plS_ok OK.out.1 OK.out.2.2 hfq hfw k HC.out).1
    have hswy : wy = 1 ∨ wy = -1 := by rw [← HWY.out]; exact (plS_ok OK.out.1 OK.out.2.2 hfq hfw k HC.out).2
    have d0 : wr.cell? ⟨rb, 0, none⟩ = some (.pointer (some ⟨bt, 0, none⟩)) := D.out.2.2.2.2.2.1.cell 0
    have d1 : wr.cell? ⟨rb, 1, none⟩ = some (.slice la v.m lc) := D.out.2.2.2.2.2.1.cell 1
    have e0 : wr.cell? ⟨bq, 0, none⟩ = some (.int .i64 (fq : Int)) := D.out.2.2.2.2.2.2.1.cell 0
    have e1 : wr.cell? ⟨bq, 1, none⟩ = some (.int .i64 fa) := D.out.2.2.2.2.2.2.1.cell 1
    have e2 : wr.cell? ⟨bq, 2, none⟩ = some (.int .i64 fw) := D.out.2.2.2.2.2.2.1.cell 2
    have e3 : wr.cell? ⟨bq, 3, none⟩ = some (.int .i64 lg) := D.out.2.2.2.2.2.2.1.cell 3
    have e4 : wr.cell? ⟨bq, 4, none⟩ = some (.slice oa k oc) := D.out.2.2.2.2.2.2.1.cell 4
    go_wp2_with fail
    refine wp_region_held_drew (S := (fun wx : World => wx.cell? ⟨rb, 0, none⟩ = some (.pointer (some ⟨bt, 0, none⟩)) ∧ wx.cell? ⟨rb, 1, none⟩ = some (.slice la v.m lc) ∧ wx.cell? ⟨bq, 0, none⟩ = some (.int .i64 (fq : Int)) ∧ wx.cell? ⟨bq, 1, none⟩ = some (.int .i64 fa) ∧ wx.cell? ⟨bq, 2, none⟩ = some (.int .i64 fw) ∧ wx.cell? ⟨bq, 3, none⟩ = some (.int .i64 lg) ∧ wx.cell? ⟨bq, 4, none⟩ = some (.slice oa k oc))) (by kernel_rfl) ?_ (fun hHeld => ?_)
    · exact ⟨d0, d1, e0, e1, e2, e3, e4⟩
    have MD77 : Hid (Below w.heap.size w wr.drew ∧ Box wr.drew (w.heap.size) 40 #[.slice pa v.n pc, .slice ja v.m jc] ∧ Box wr.drew (w.heap.size + 1) 30 #[.int .i64 (fq : Int), .int .i64 fa, .int .i64 fw] ∧ Box wr.drew (w.heap.size + 1 + 1) 35 #[.bool false, .int .i64 0, .int .i64 0, .int .i64 0, .int .i64 0, .slice none 0 0] ∧ Below n4 w4 wr.drew ∧ Box wr.drew (rb) 87 #[.pointer (some ⟨bt, 0, none⟩), .slice la v.m lc] ∧ Box wr.drew (bq) 90 #[.int .i64 (fq : Int), .int .i64 fa, .int .i64 fw, .int .i64 lg, .slice oa k oc] ∧ VOwn n4 74 2 wr.drew (.slice oa k oc) k (intF (plB v L fq fw))) := ⟨D.out.1.drew, D.out.2.1.drew, D.out.2.2.1.drew, D.out.2.2.2.1.drew, D.out.2.2.2.2.1.drew, D.out.2.2.2.2.2.1.drew, D.out.2.2.2.2.2.2.1.drew, D.out.2.2.2.2.2.2.2⟩
    clear d0 d1 e0 e1 e2 e3 e4 D
    generalize wr.drew = VD at MD77 hHeld ⊢
    refine tk 0 ?_
    refine tk 1 ?_
    refine tk 2 ?_
    refine tk 4 ?_
    refine tk 5 ?_
    refine tk 6 ?_
    refine rl 3 fun K hK => ?_
    go_simp
    refine (needs45 OK.out.1 (fq : Int) fa fw lg k (plB v L fq fw) oa oc _ (HTK.out.mono MD77.out.2.2.2.2.1 (Nat.le_of_eq HN4.out)) HU2.out hlg hk (MD77.out.2.2.2.2.2.2.2.vs.le (Nat.zero_le _)) (pl_step OK.out.1 OK.out.2.2 hfq hfw HC.out)).mono ?_
    rintro e wh78 ⟨zz, rfl, hz1, hz2, hz3, hb⟩
    have HZ1 : Hid (zz ≤ k + 1 ∧ (∀ q, q < zz → q ≤ k → hvF v (fq : Int) fa fw (plB v L fq fw) q < lg) ∧ (zz ≤ k → lg ≤ hvF v (fq : Int) fa fw (plB v L fq fw) zz)) := ⟨hz1, hz2, hz3⟩
    clear hz1 hz2 hz3
    have MN : Hid (Below w.heap.size w wh78 ∧ Box wh78 (w.heap.size) 40 #[.slice pa v.n pc, .slice ja v.m jc] ∧ Box wh78 (w.heap.size + 1) 30 #[.int .i64 (fq : Int), .int .i64 fa, .int .i64 fw] ∧ Box wh78 (w.heap.size + 1 + 1) 35 #[.bool false, .int .i64 0, .int .i64 0, .int .i64 0, .int .i64 0, .slice none 0 0] ∧ Below n4 w4 wh78 ∧ Box wh78 (rb) 87 #[.pointer (some ⟨bt, 0, none⟩), .slice la v.m lc] ∧ Box wh78 (bq) 90 #[.int .i64 (fq : Int), .int .i64 fa, .int .i64 fw, .int .i64 lg, .slice oa k oc] ∧ VOwn n4 74 2 wh78 (.slice oa k oc) k (intF (plB v L fq fw))) := ⟨MD77.out.1.trans (hb.mono MD77.out.1.size), MD77.out.2.1.mono hb (Nat.le_refl _), MD77.out.2.2.1.mono hb (Nat.le_refl _), MD77.out.2.2.2.1.mono hb (Nat.le_refl _), MD77.out.2.2.2.2.1.trans (hb.mono (Nat.le_trans (Nat.le_of_eq HN4.out.symm) MD77.out.2.2.2.2.1.size)), MD77.out.2.2.2.2.2.1.mono hb (Nat.le_refl _), MD77.out.2.2.2.2.2.2.1.mono hb (Nat.le_refl _), MD77.out.2.2.2.2.2.2.2.mono (Nat.le_refl _) hb (Nat.le_refl _)⟩
    clear hb MD77
    go_wp2_with fail
    refine hK.out _ _ ?_ (fun hHeld => ?_)
    · exact ⟨MN.out.2.2.2.2.2.1.cell 0, MN.out.2.2.2.2.2.1.cell 1, MN.out.2.2.2.2.2.2.1.cell 0, MN.out.2.2.2.2.2.2.1.cell 1, MN.out.2.2.2.2.2.2.1.cell 2, MN.out.2.2.2.2.2.2.1.cell 3, MN.out.2.2.2.2.2.2.1.cell 4⟩
    clear hK K
    refine tk 7 ?_
    refine wpAnyH_done (by kernel_rfl) ?_ _
    generalize wh78 = WN at MN ⊢
    clear hHeld
    by_cases hlt : hvF v (fq : Int) fa fw (plB v L fq fw) k < lg
    · have hzk : (k : Int) < (zz : Int) := nd_on HZ1.out.2.2 HLT.out hlt
      obtain ⟨cd, HCD⟩ : ∃ cd, Hid ((exitAt v L sp (-wy)).2 = cd) := ⟨_, rfl⟩
      have HPC : Hid (plC v L fq fw k = cd) := by rw [← HCD.out, ← HSP.out, ← HWY.out]; rfl
      go_upto_region 6 with fail
      go_cut [11, 12] from 35 to 64 (fun s11 s12 wx => ∃ (fb : Nat) (a b : Int), s11 = .pointer (some ⟨fb, 0, none⟩) ∧ s12 = .int .i64 cd ∧ Hid (cd = 0 → a = (nextAt v L sp (-wy)).pc ∧ b = -(wayOf (nextAt v L sp (-wy)))) ∧ Hid (Below w.heap.size w wx ∧ Box wx (w.heap.size) 40 #[.slice pa v.n pc, .slice ja v.m jc] ∧ Box wx (w.heap.size + 1) 30 #[.int .i64 (fq : Int), .int .i64 fa, .int .i64 fw] ∧ Box wx (w.heap.size + 1 + 1) 35 #[.bool false, .int .i64 0, .int .i64 0, .int .i64 0, .int .i64 0, .slice none 0 0] ∧ Below n4 w4 wx ∧ Box wx (rb) 87 #[.pointer (some ⟨bt, 0, none⟩), .slice la v.m lc] ∧ Box wx (bq) 90 #[.int .i64 (fq : Int), .int .i64 fa, .int .i64 fw, .int .i64 lg, .slice oa k oc] ∧ VOwn n4 74 2 wx (.slice oa k oc) k (intF (plB v L fq fw)) ∧ Box wx (fb) 74 #[.int .i64 a, .int .i64 b]))
      case first =>
        have d0 : WN.cell? ⟨rb, 0, none⟩ = some (.pointer (some ⟨bt, 0, none⟩)) := MN.out.2.2.2.2.2.1.cell 0
        have d1 : WN.cell? ⟨rb, 1, none⟩ = some (.slice la v.m lc) := MN.out.2.2.2.2.2.1.cell 1
        have e0 : WN.cell? ⟨bq, 0, none⟩ = some (.int .i64 (fq : Int)) := MN.out.2.2.2.2.2.2.1.cell 0
        have e1 : WN.cell? ⟨bq, 1, none⟩ = some (.int .i64 fa) := MN.out.2.2.2.2.2.2.1.cell 1
        have e2 : WN.cell? ⟨bq, 2, none⟩ = some (.int .i64 fw) := MN.out.2.2.2.2.2.2.1.cell 2
        have e3 : WN.cell? ⟨bq, 3, none⟩ = some (.int .i64 lg) := MN.out.2.2.2.2.2.2.1.cell 3
        have e4 : WN.cell? ⟨bq, 4, none⟩ = some (.slice oa k oc) := MN.out.2.2.2.2.2.2.1.cell 4
        go_wp2_with fail
        refine wp_region_held_drew (S := (fun wx : World => wx.cell? ⟨rb, 0, none⟩ = some (.pointer (some ⟨bt, 0, none⟩)) ∧ wx.cell? ⟨rb, 1, none⟩ = some (.slice la v.m lc) ∧ wx.cell? ⟨bq, 0, none⟩ = some (.int .i64 (fq : Int)) ∧ wx.cell? ⟨bq, 1, none⟩ = some (.int .i64 fa) ∧ wx.cell? ⟨bq, 2, none⟩ = some (.int .i64 fw) ∧ wx.cell? ⟨bq, 3, none⟩ = some (.int .i64 lg) ∧ wx.cell? ⟨bq, 4, none⟩ = some (.slice oa k oc))) (by kernel_rfl) ?_ (fun hHeld => ?_)
        · exact ⟨d0, d1, e0, e1, e2, e3, e4⟩
        have MD79 : Hid (Below w.heap.size w WN.drew ∧ Box WN.drew (w.heap.size) 40 #[.slice pa v.n pc, .slice ja v.m jc] ∧ Box WN.drew (w.heap.size + 1) 30 #[.int .i64 (fq : Int), .int .i64 fa, .int .i64 fw] ∧ Box WN.drew (w.heap.size + 1 + 1) 35 #[.bool false, .int .i64 0, .int .i64 0, .int .i64 0, .int .i64 0, .slice none 0 0] ∧ Below n4 w4 WN.drew ∧ Box WN.drew (rb) 87 #[.pointer (some ⟨bt, 0, none⟩), .slice la v.m lc] ∧ Box WN.drew (bq) 90 #[.int .i64 (fq : Int), .int .i64 fa, .int .i64 fw, .int .i64 lg, .slice oa k oc] ∧ VOwn n4 74 2 WN.drew (.slice oa k oc) k (intF (plB v L fq fw))) := ⟨MN.out.1.drew, MN.out.2.1.drew, MN.out.2.2.1.drew, MN.out.2.2.2.1.drew, MN.out.2.2.2.2.1.drew, MN.out.2.2.2.2.2.1.drew, MN.out.2.2.2.2.2.2.1.drew, MN.out.2.2.2.2.2.2.2⟩
        clear d0 d1 e0 e1 e2 e3 e4 MN
        generalize WN.drew = VD2 at MD79 hHeld ⊢
        refine tk 0 ?_
        refine tk 1 ?_
        refine ready2_lit (i := 2) (j := 7) (by kernel_rfl) rfl rfl (fun K hK => ?_) (fun K hK => ?_)
        · go_simp
          refine (last47 (fq : Int) fa fw lg k (plB v L fq fw) oa oc _ (by omega) (MD79.out.2.2.2.2.2.2.2.vs.le (Nat.zero_le _))).mono ?_
          rintro e wh80 ⟨he, hb⟩
          rw [pl_ahP, pl_ahW, HSP.out, HWY.out] at he
          subst he
          have MA81 : Hid (Below w.heap.size w wh80 ∧ Box wh80 (w.heap.size) 40 #[.slice pa v.n pc, .slice ja v.m jc] ∧ Box wh80 (w.heap.size + 1) 30 #[.int .i64 (fq : Int), .int .i64 fa, .int .i64 fw] ∧ Box wh80 (w.heap.size + 1 + 1) 35 #[.bool false, .int .i64 0, .int .i64 0, .int .i64 0, .int .i64 0, .slice none 0 0] ∧ Below n4 w4 wh80 ∧ Box wh80 (rb) 87 #[.pointer (some ⟨bt, 0, none⟩), .slice la v.m lc] ∧ Box wh80 (bq) 90 #[.int .i64 (fq : Int), .int .i64 fa, .int .i64 fw, .int .i64 lg, .slice oa k oc] ∧ VOwn n4 74 2 wh80 (.slice oa k oc) k (intF (plB v L fq fw))) := ⟨MD79.out.1.trans (hb.mono MD79.out.1.size), MD79.out.2.1.mono hb (Nat.le_refl _), MD79.out.2.2.1.mono hb (Nat.le_refl _), MD79.out.2.2.2.1.mono hb (Nat.le_refl _), MD79.out.2.2.2.2.1.trans (hb.mono (Nat.le_trans (Nat.le_of_eq HN4.out.symm) MD79.out.2.2.2.2.1.size)), MD79.out.2.2.2.2.2.1.mono hb (Nat.le_refl _), MD79.out.2.2.2.2.2.2.1.mono hb (Nat.le_refl _), MD79.out.2.2.2.2.2.2.2.mono (Nat.le_refl _) hb (Nat.le_refl _)⟩
          clear hb MD79
          go_wp2_with fail
          refine hK.out _ _ ?_ (fun hHeld => ?_)
          · exact ⟨MA81.out.2.2.2.2.2.1.cell 0, MA81.out.2.2.2.2.2.1.cell 1, MA81.out.2.2.2.2.2.2.1.cell 0, MA81.out.2.2.2.2.2.2.1.cell 1, MA81.out.2.2.2.2.2.2.1.cell 2, MA81.out.2.2.2.2.2.2.1.cell 3, MA81.out.2.2.2.2.2.2.1.cell 4⟩
          clear hK K
          refine ready2_lit (i := 3) (j := 7) (by kernel_rfl) rfl rfl (fun K hK => ?_) (fun K hK => ?_)
          · go_simp
            refine (comes46 OK.out.1 sp wy la lc L _ (HTK.out.mono MA81.out.2.2.2.2.1 (Nat.le_of_eq HN4.out)) hspn hswy (H.out.2.2.2.2.mono (Nat.le_refl _) MA81.out.1 (Nat.le_refl _)) OK.out.2.2).mono ?_
            rintro e wh82 ⟨a, b, he, hab, hb⟩
            have HAB : Hid (cd = 0 → a = (nextAt v L sp (-wy)).pc ∧ b = -(wayOf (nextAt v L sp (-wy)))) := by rw [HCD.out] at hab; exact hab
            rw [HCD.out] at he
            subst he
            clear hab
            have MA83 : Hid (Below w.heap.size w wh82 ∧ Box wh82 (w.heap.size) 40 #[.slice pa v.n pc, .slice ja v.m jc] ∧ Box wh82 (w.heap.size + 1) 30 #[.int .i64 (fq : Int), .int .i64 fa, .int .i64 fw] ∧ Box wh82 (w.heap.size + 1 + 1) 35 #[.bool false, .int .i64 0, .int .i64 0, .int .i64 0, .int .i64 0, .slice none 0 0] ∧ Below n4 w4 wh82 ∧ Box wh82 (rb) 87 #[.pointer (some ⟨bt, 0, none⟩), .slice la v.m lc] ∧ Box wh82 (bq) 90 #[.int .i64 (fq : Int), .int .i64 fa, .int .i64 fw, .int .i64 lg, .slice oa k oc] ∧ VOwn n4 74 2 wh82 (.slice oa k oc) k (intF (plB v L fq fw))) := ⟨MA81.out.1.trans (hb.mono MA81.out.1.size), MA81.out.2.1.mono hb (Nat.le_refl _), MA81.out.2.2.1.mono hb (Nat.le_refl _), MA81.out.2.2.2.1.mono hb (Nat.le_refl _), MA81.out.2.2.2.2.1.trans (hb.mono (Nat.le_trans (Nat.le_of_eq HN4.out.symm) MA81.out.2.2.2.2.1.size)), MA81.out.2.2.2.2.2.1.mono hb (Nat.le_refl _), MA81.out.2.2.2.2.2.2.1.mono hb (Nat.le_refl _), MA81.out.2.2.2.2.2.2.2.mono (Nat.le_refl _) hb (Nat.le_refl _)⟩
            clear hb MA81
            go_wp2_with fail
            refine hK.out _ _ ?_ (fun hHeld => ?_)
            · exact ⟨MA83.out.2.2.2.2.2.1.cell 0, MA83.out.2.2.2.2.2.1.cell 1, MA83.out.2.2.2.2.2.2.1.cell 0, MA83.out.2.2.2.2.2.2.1.cell 1, MA83.out.2.2.2.2.2.2.1.cell 2, MA83.out.2.2.2.2.2.2.1.cell 3, MA83.out.2.2.2.2.2.2.1.cell 4⟩
            clear hK K
            refine tk 4 ?_
            refine tk 5 ?_
            refine tk 6 ?_
            refine rl 7 fun K hK => ?_
            have MA85 : Hid (Below w.heap.size w (wh82.alloc (.cells #[.int .i64 0, .int .i64 0] 74)) ∧ Box (wh82.alloc (.cells #[.int .i64 0, .int .i64 0] 74)) (w.heap.size) 40 #[.slice pa v.n pc, .slice ja v.m jc] ∧ Box (wh82.alloc (.cells #[.int .i64 0, .int .i64 0] 74)) (w.heap.size + 1) 30 #[.int .i64 (fq : Int), .int .i64 fa, .int .i64 fw] ∧ Box (wh82.alloc (.cells #[.int .i64 0, .int .i64 0] 74)) (w.heap.size + 1 + 1) 35 #[.bool false, .int .i64 0, .int .i64 0, .int .i64 0, .int .i64 0, .slice none 0 0] ∧ Below n4 w4 (wh82.alloc (.cells #[.int .i64 0, .int .i64 0] 74)) ∧ Box (wh82.alloc (.cells #[.int .i64 0, .int .i64 0] 74)) (rb) 87 #[.pointer (some ⟨bt, 0, none⟩), .slice la v.m lc] ∧ Box (wh82.alloc (.cells #[.int .i64 0, .int .i64 0] 74)) (bq) 90 #[.int .i64 (fq : Int), .int .i64 fa, .int .i64 fw, .int .i64 lg, .slice oa k oc] ∧ VOwn n4 74 2 (wh82.alloc (.cells #[.int .i64 0, .int .i64 0] 74)) (.slice oa k oc) k (intF (plB v L fq fw)) ∧ Box (wh82.alloc (.cells #[.int .i64 0, .int .i64 0] 74)) (wh82.heap.size) 74 #[.int .i64 0, .int .i64 0]) := ⟨MA83.out.1.alloc MA83.out.1.size _, MA83.out.2.1.alloc _, MA83.out.2.2.1.alloc _, MA83.out.2.2.2.1.alloc _, MA83.out.2.2.2.2.1.alloc (Nat.le_trans (Nat.le_of_eq HN4.out.symm) MA83.out.2.2.2.2.1.size) _, MA83.out.2.2.2.2.2.1.alloc _, MA83.out.2.2.2.2.2.2.1.alloc _, MA83.out.2.2.2.2.2.2.2.alloc _, Box.new _ _ _⟩
            have HL86 : Hid (w.heap.size ≤ wh82.heap.size) := MA83.out.1.size
            have HL87 : Hid (n4 ≤ wh82.heap.size) := (Nat.le_trans (Nat.le_of_eq HN4.out.symm) MA83.out.2.2.2.2.1.size)
            have HO88 : Hid (∀ g, (Value.slice oa k oc).ownBlock = some g → g < wh82.heap.size) := fun g hg => (MA83.out.2.2.2.2.2.2.2.lt hg).2
            clear MA83
            go_simp
            refine hK.out _ _ ?_ (fun hHeld => ?_)
            · exact ⟨MA85.out.2.2.2.2.2.1.cell 0, MA85.out.2.2.2.2.2.1.cell 1, MA85.out.2.2.2.2.2.2.1.cell 0, MA85.out.2.2.2.2.2.2.1.cell 1, MA85.out.2.2.2.2.2.2.1.cell 2, MA85.out.2.2.2.2.2.2.1.cell 3, MA85.out.2.2.2.2.2.2.1.cell 4⟩
            clear hK K
            clear hHeld
            generalize wh82.alloc (.cells #[.int .i64 0, .int .i64 0] 74) = V84 at MA85 ⊢
            generalize wh82.heap.size = fb at MA85 HL86 HL87 HO88 ⊢
            have z0 : V84.cell? ⟨fb, 0, none⟩ = some (.int .i64 0) := MA85.out.2.2.2.2.2.2.2.2.cell 0
            have z1 : V84.cell? ⟨fb, 1, none⟩ = some (.int .i64 0) := MA85.out.2.2.2.2.2.2.2.2.cell 1
            have zf0 := MA85.out.2.2.2.2.2.2.2.2.free 0
            have zf1 := MA85.out.2.2.2.2.2.2.2.2.free 1
            have MA89 : Hid (Below w.heap.size w ((V84.setCell ⟨fb, 0, none⟩ (.int .i64 a)).setCell ⟨fb, 1, none⟩ (.int .i64 b)) ∧ Box ((V84.setCell ⟨fb, 0, none⟩ (.int .i64 a)).setCell ⟨fb, 1, none⟩ (.int .i64 b)) (w.heap.size) 40 #[.slice pa v.n pc, .slice ja v.m jc] ∧ Box ((V84.setCell ⟨fb, 0, none⟩ (.int .i64 a)).setCell ⟨fb, 1, none⟩ (.int .i64 b)) (w.heap.size + 1) 30 #[.int .i64 (fq : Int), .int .i64 fa, .int .i64 fw] ∧ Box ((V84.setCell ⟨fb, 0, none⟩ (.int .i64 a)).setCell ⟨fb, 1, none⟩ (.int .i64 b)) (w.heap.size + 1 + 1) 35 #[.bool false, .int .i64 0, .int .i64 0, .int .i64 0, .int .i64 0, .slice none 0 0] ∧ Below n4 w4 ((V84.setCell ⟨fb, 0, none⟩ (.int .i64 a)).setCell ⟨fb, 1, none⟩ (.int .i64 b)) ∧ Box ((V84.setCell ⟨fb, 0, none⟩ (.int .i64 a)).setCell ⟨fb, 1, none⟩ (.int .i64 b)) (rb) 87 #[.pointer (some ⟨bt, 0, none⟩), .slice la v.m lc] ∧ Box ((V84.setCell ⟨fb, 0, none⟩ (.int .i64 a)).setCell ⟨fb, 1, none⟩ (.int .i64 b)) (bq) 90 #[.int .i64 (fq : Int), .int .i64 fa, .int .i64 fw, .int .i64 lg, .slice oa k oc] ∧ VOwn n4 74 2 ((V84.setCell ⟨fb, 0, none⟩ (.int .i64 a)).setCell ⟨fb, 1, none⟩ (.int .i64 b)) (.slice oa k oc) k (intF (plB v L fq fw)) ∧ Box ((V84.setCell ⟨fb, 0, none⟩ (.int .i64 a)).setCell ⟨fb, 1, none⟩ (.int .i64 b)) (fb) 74 #[.int .i64 a, .int .i64 b]) := ⟨((MA85.out.1.setCell HL86.out _).setCell HL86.out _), ((MA85.out.2.1.other (box_ne MA85.out.2.1 MA85.out.2.2.2.2.2.2.2.2 (by decide)) _).other (box_ne MA85.out.2.1 MA85.out.2.2.2.2.2.2.2.2 (by decide)) _), ((MA85.out.2.2.1.other (box_ne MA85.out.2.2.1 MA85.out.2.2.2.2.2.2.2.2 (by decide)) _).other (box_ne MA85.out.2.2.1 MA85.out.2.2.2.2.2.2.2.2 (by decide)) _), ((MA85.out.2.2.2.1.other (box_ne MA85.out.2.2.2.1 MA85.out.2.2.2.2.2.2.2.2 (by decide)) _).other (box_ne MA85.out.2.2.2.1 MA85.out.2.2.2.2.2.2.2.2 (by decide)) _), ((MA85.out.2.2.2.2.1.setCell HL87.out _).setCell HL87.out _), ((MA85.out.2.2.2.2.2.1.other (box_ne MA85.out.2.2.2.2.2.1 MA85.out.2.2.2.2.2.2.2.2 (by decide)) _).other (box_ne MA85.out.2.2.2.2.2.1 MA85.out.2.2.2.2.2.2.2.2 (by decide)) _), ((MA85.out.2.2.2.2.2.2.1.other (box_ne MA85.out.2.2.2.2.2.2.1 MA85.out.2.2.2.2.2.2.2.2 (by decide)) _).other (box_ne MA85.out.2.2.2.2.2.2.1 MA85.out.2.2.2.2.2.2.2.2 (by decide)) _), ((MA85.out.2.2.2.2.2.2.2.1.high HO88.out 0 _).high HO88.out 1 _), by have h9 := ((MA85.out.2.2.2.2.2.2.2.2.set 0 (.int .i64 a)).set 1 (.int .i64 b)); exact h9⟩
            clear MA85
            refine rl 8 fun K hK => ?_
            go_simp
            refine hK.out _ _ ?_ (fun hHeld => ?_)
            · exact ⟨MA89.out.2.2.2.2.2.1.cell 0, MA89.out.2.2.2.2.2.1.cell 1, MA89.out.2.2.2.2.2.2.1.cell 0, MA89.out.2.2.2.2.2.2.1.cell 1, MA89.out.2.2.2.2.2.2.1.cell 2, MA89.out.2.2.2.2.2.2.1.cell 3, MA89.out.2.2.2.2.2.2.1.cell 4⟩
            clear hK K
            refine tk 9 ?_
            refine wpAnyH_done (by kernel_rfl) ?_ _
            clear z0 z1 zf0 zf1 hHeld
            generalize ((V84.setCell ⟨fb, 0, none⟩ (.int .i64 a)).setCell ⟨fb, 1, none⟩ (.int .i64 b)) = W90 at MA89 ⊢
            go_wp2_with fail
            go_meet
            case rel => exact ⟨fb, a, b, rfl, rfl, HAB, MA89⟩
          · have MA92 : Hid (Below w.heap.size w (wh80.alloc (.cells #[.int .i64 0, .int .i64 0] 74)) ∧ Box (wh80.alloc (.cells #[.int .i64 0, .int .i64 0] 74)) (w.heap.size) 40 #[.slice pa v.n pc, .slice ja v.m jc] ∧ Box (wh80.alloc (.cells #[.int .i64 0, .int .i64 0] 74)) (w.heap.size + 1) 30 #[.int .i64 (fq : Int), .int .i64 fa, .int .i64 fw] ∧ Box (wh80.alloc (.cells #[.int .i64 0, .int .i64 0] 74)) (w.heap.size + 1 + 1) 35 #[.bool false, .int .i64 0, .int .i64 0, .int .i64 0, .int .i64 0, .slice none 0 0] ∧ Below n4 w4 (wh80.alloc (.cells #[.int .i64 0, .int .i64 0] 74)) ∧ Box (wh80.alloc (.cells #[.int .i64 0, .int .i64 0] 74)) (rb) 87 #[.pointer (some ⟨bt, 0, none⟩), .slice la v.m lc] ∧ Box (wh80.alloc (.cells #[.int .i64 0, .int .i64 0] 74)) (bq) 90 #[.int .i64 (fq : Int), .int .i64 fa, .int .i64 fw, .int .i64 lg, .slice oa k oc] ∧ VOwn n4 74 2 (wh80.alloc (.cells #[.int .i64 0, .int .i64 0] 74)) (.slice oa k oc) k (intF (plB v L fq fw)) ∧ Box (wh80.alloc (.cells #[.int .i64 0, .int .i64 0] 74)) (wh80.heap.size) 74 #[.int .i64 0, .int .i64 0]) := ⟨MA81.out.1.alloc MA81.out.1.size _, MA81.out.2.1.alloc _, MA81.out.2.2.1.alloc _, MA81.out.2.2.2.1.alloc _, MA81.out.2.2.2.2.1.alloc (Nat.le_trans (Nat.le_of_eq HN4.out.symm) MA81.out.2.2.2.2.1.size) _, MA81.out.2.2.2.2.2.1.alloc _, MA81.out.2.2.2.2.2.2.1.alloc _, MA81.out.2.2.2.2.2.2.2.alloc _, Box.new _ _ _⟩
            have HL93 : Hid (w.heap.size ≤ wh80.heap.size) := MA81.out.1.size
            have HL94 : Hid (n4 ≤ wh80.heap.size) := (Nat.le_trans (Nat.le_of_eq HN4.out.symm) MA81.out.2.2.2.2.1.size)
            have HO95 : Hid (∀ g, (Value.slice oa k oc).ownBlock = some g → g < wh80.heap.size) := fun g hg => (MA81.out.2.2.2.2.2.2.2.lt hg).2
            clear MA81
            go_simp
            refine hK.out _ _ ?_ (fun hHeld => ?_)
            · exact ⟨MA92.out.2.2.2.2.2.1.cell 0, MA92.out.2.2.2.2.2.1.cell 1, MA92.out.2.2.2.2.2.2.1.cell 0, MA92.out.2.2.2.2.2.2.1.cell 1, MA92.out.2.2.2.2.2.2.1.cell 2, MA92.out.2.2.2.2.2.2.1.cell 3, MA92.out.2.2.2.2.2.2.1.cell 4⟩
            clear hK K
            clear hHeld
            generalize wh80.alloc (.cells #[.int .i64 0, .int .i64 0] 74) = V91 at MA92 ⊢
            generalize wh80.heap.size = fb at MA92 HL93 HL94 HO95 ⊢
            refine rl 3 fun K hK => ?_
            go_simp
            refine (comes46 OK.out.1 sp wy la lc L _ (HTK.out.mono MA92.out.2.2.2.2.1 (Nat.le_of_eq HN4.out)) hspn hswy (H.out.2.2.2.2.mono (Nat.le_refl _) MA92.out.1 (Nat.le_refl _)) OK.out.2.2).mono ?_
            rintro e wh96 ⟨a, b, he, hab, hb⟩
            have HAB : Hid (cd = 0 → a = (nextAt v L sp (-wy)).pc ∧ b = -(wayOf (nextAt v L sp (-wy)))) := by rw [HCD.out] at hab; exact hab
            rw [HCD.out] at he
            subst he
            clear hab
            have MA97 : Hid (Below w.heap.size w wh96 ∧ Box wh96 (w.heap.size) 40 #[.slice pa v.n pc, .slice ja v.m jc] ∧ Box wh96 (w.heap.size + 1) 30 #[.int .i64 (fq : Int), .int .i64 fa, .int .i64 fw] ∧ Box wh96 (w.heap.size + 1 + 1) 35 #[.bool false, .int .i64 0, .int .i64 0, .int .i64 0, .int .i64 0, .slice none 0 0] ∧ Below n4 w4 wh96 ∧ Box wh96 (rb) 87 #[.pointer (some ⟨bt, 0, none⟩), .slice la v.m lc] ∧ Box wh96 (bq) 90 #[.int .i64 (fq : Int), .int .i64 fa, .int .i64 fw, .int .i64 lg, .slice oa k oc] ∧ VOwn n4 74 2 wh96 (.slice oa k oc) k (intF (plB v L fq fw)) ∧ Box wh96 (fb) 74 #[.int .i64 0, .int .i64 0]) := ⟨MA92.out.1.trans (hb.mono MA92.out.1.size), MA92.out.2.1.mono hb (Nat.le_refl _), MA92.out.2.2.1.mono hb (Nat.le_refl _), MA92.out.2.2.2.1.mono hb (Nat.le_refl _), MA92.out.2.2.2.2.1.trans (hb.mono (Nat.le_trans (Nat.le_of_eq HN4.out.symm) MA92.out.2.2.2.2.1.size)), MA92.out.2.2.2.2.2.1.mono hb (Nat.le_refl _), MA92.out.2.2.2.2.2.2.1.mono hb (Nat.le_refl _), MA92.out.2.2.2.2.2.2.2.1.mono (Nat.le_refl _) hb (Nat.le_refl _), MA92.out.2.2.2.2.2.2.2.2.mono hb (Nat.le_refl _)⟩
            clear hb MA92
            go_wp2_with fail
            refine hK.out _ _ ?_ (fun hHeld => ?_)
            · exact ⟨MA97.out.2.2.2.2.2.1.cell 0, MA97.out.2.2.2.2.2.1.cell 1, MA97.out.2.2.2.2.2.2.1.cell 0, MA97.out.2.2.2.2.2.2.1.cell 1, MA97.out.2.2.2.2.2.2.1.cell 2, MA97.out.2.2.2.2.2.2.1.cell 3, MA97.out.2.2.2.2.2.2.1.cell 4⟩
            clear hK K
            refine tk 4 ?_
            refine tk 5 ?_
            refine tk 6 ?_
            have z0 : wh96.cell? ⟨fb, 0, none⟩ = some (.int .i64 0) := MA97.out.2.2.2.2.2.2.2.2.cell 0
            have z1 : wh96.cell? ⟨fb, 1, none⟩ = some (.int .i64 0) := MA97.out.2.2.2.2.2.2.2.2.cell 1
            have zf0 := MA97.out.2.2.2.2.2.2.2.2.free 0
            have zf1 := MA97.out.2.2.2.2.2.2.2.2.free 1
            have MA98 : Hid (Below w.heap.size w ((wh96.setCell ⟨fb, 0, none⟩ (.int .i64 a)).setCell ⟨fb, 1, none⟩ (.int .i64 b)) ∧ Box ((wh96.setCell ⟨fb, 0, none⟩ (.int .i64 a)).setCell ⟨fb, 1, none⟩ (.int .i64 b)) (w.heap.size) 40 #[.slice pa v.n pc, .slice ja v.m jc] ∧ Box ((wh96.setCell ⟨fb, 0, none⟩ (.int .i64 a)).setCell ⟨fb, 1, none⟩ (.int .i64 b)) (w.heap.size + 1) 30 #[.int .i64 (fq : Int), .int .i64 fa, .int .i64 fw] ∧ Box ((wh96.setCell ⟨fb, 0, none⟩ (.int .i64 a)).setCell ⟨fb, 1, none⟩ (.int .i64 b)) (w.heap.size + 1 + 1) 35 #[.bool false, .int .i64 0, .int .i64 0, .int .i64 0, .int .i64 0, .slice none 0 0] ∧ Below n4 w4 ((wh96.setCell ⟨fb, 0, none⟩ (.int .i64 a)).setCell ⟨fb, 1, none⟩ (.int .i64 b)) ∧ Box ((wh96.setCell ⟨fb, 0, none⟩ (.int .i64 a)).setCell ⟨fb, 1, none⟩ (.int .i64 b)) (rb) 87 #[.pointer (some ⟨bt, 0, none⟩), .slice la v.m lc] ∧ Box ((wh96.setCell ⟨fb, 0, none⟩ (.int .i64 a)).setCell ⟨fb, 1, none⟩ (.int .i64 b)) (bq) 90 #[.int .i64 (fq : Int), .int .i64 fa, .int .i64 fw, .int .i64 lg, .slice oa k oc] ∧ VOwn n4 74 2 ((wh96.setCell ⟨fb, 0, none⟩ (.int .i64 a)).setCell ⟨fb, 1, none⟩ (.int .i64 b)) (.slice oa k oc) k (intF (plB v L fq fw)) ∧ Box ((wh96.setCell ⟨fb, 0, none⟩ (.int .i64 a)).setCell ⟨fb, 1, none⟩ (.int .i64 b)) (fb) 74 #[.int .i64 a, .int .i64 b]) := ⟨((MA97.out.1.setCell HL93.out _).setCell HL93.out _), ((MA97.out.2.1.other (box_ne MA97.out.2.1 MA97.out.2.2.2.2.2.2.2.2 (by decide)) _).other (box_ne MA97.out.2.1 MA97.out.2.2.2.2.2.2.2.2 (by decide)) _), ((MA97.out.2.2.1.other (box_ne MA97.out.2.2.1 MA97.out.2.2.2.2.2.2.2.2 (by decide)) _).other (box_ne MA97.out.2.2.1 MA97.out.2.2.2.2.2.2.2.2 (by decide)) _), ((MA97.out.2.2.2.1.other (box_ne MA97.out.2.2.2.1 MA97.out.2.2.2.2.2.2.2.2 (by decide)) _).other (box_ne MA97.out.2.2.2.1 MA97.out.2.2.2.2.2.2.2.2 (by decide)) _), ((MA97.out.2.2.2.2.1.setCell HL94.out _).setCell HL94.out _), ((MA97.out.2.2.2.2.2.1.other (box_ne MA97.out.2.2.2.2.2.1 MA97.out.2.2.2.2.2.2.2.2 (by decide)) _).other (box_ne MA97.out.2.2.2.2.2.1 MA97.out.2.2.2.2.2.2.2.2 (by decide)) _), ((MA97.out.2.2.2.2.2.2.1.other (box_ne MA97.out.2.2.2.2.2.2.1 MA97.out.2.2.2.2.2.2.2.2 (by decide)) _).other (box_ne MA97.out.2.2.2.2.2.2.1 MA97.out.2.2.2.2.2.2.2.2 (by decide)) _), ((MA97.out.2.2.2.2.2.2.2.1.high HO95.out 0 _).high HO95.out 1 _), by have h9 := ((MA97.out.2.2.2.2.2.2.2.2.set 0 (.int .i64 a)).set 1 (.int .i64 b)); exact h9⟩
            clear MA97
            refine rl 8 fun K hK => ?_
            go_simp
            refine hK.out _ _ ?_ (fun hHeld => ?_)
            · exact ⟨MA98.out.2.2.2.2.2.1.cell 0, MA98.out.2.2.2.2.2.1.cell 1, MA98.out.2.2.2.2.2.2.1.cell 0, MA98.out.2.2.2.2.2.2.1.cell 1, MA98.out.2.2.2.2.2.2.1.cell 2, MA98.out.2.2.2.2.2.2.1.cell 3, MA98.out.2.2.2.2.2.2.1.cell 4⟩
            clear hK K
            refine tk 9 ?_
            refine wpAnyH_done (by kernel_rfl) ?_ _
            clear z0 z1 zf0 zf1 hHeld
            generalize ((wh96.setCell ⟨fb, 0, none⟩ (.int .i64 a)).setCell ⟨fb, 1, none⟩ (.int .i64 b)) = W99 at MA98 ⊢
            go_wp2_with fail
            go_meet
            case rel => exact ⟨fb, a, b, rfl, rfl, HAB, MA98⟩
        · have MA101 : Hid (Below w.heap.size w (VD2.alloc (.cells #[.int .i64 0, .int .i64 0] 74)) ∧ Box (VD2.alloc (.cells #[.int .i64 0, .int .i64 0] 74)) (w.heap.size) 40 #[.slice pa v.n pc, .slice ja v.m jc] ∧ Box (VD2.alloc (.cells #[.int .i64 0, .int .i64 0] 74)) (w.heap.size + 1) 30 #[.int .i64 (fq : Int), .int .i64 fa, .int .i64 fw] ∧ Box (VD2.alloc (.cells #[.int .i64 0, .int .i64 0] 74)) (w.heap.size + 1 + 1) 35 #[.bool false, .int .i64 0, .int .i64 0, .int .i64 0, .int .i64 0, .slice none 0 0] ∧ Below n4 w4 (VD2.alloc (.cells #[.int .i64 0, .int .i64 0] 74)) ∧ Box (VD2.alloc (.cells #[.int .i64 0, .int .i64 0] 74)) (rb) 87 #[.pointer (some ⟨bt, 0, none⟩), .slice la v.m lc] ∧ Box (VD2.alloc (.cells #[.int .i64 0, .int .i64 0] 74)) (bq) 90 #[.int .i64 (fq : Int), .int .i64 fa, .int .i64 fw, .int .i64 lg, .slice oa k oc] ∧ VOwn n4 74 2 (VD2.alloc (.cells #[.int .i64 0, .int .i64 0] 74)) (.slice oa k oc) k (intF (plB v L fq fw)) ∧ Box (VD2.alloc (.cells #[.int .i64 0, .int .i64 0] 74)) (VD2.heap.size) 74 #[.int .i64 0, .int .i64 0]) := ⟨MD79.out.1.alloc MD79.out.1.size _, MD79.out.2.1.alloc _, MD79.out.2.2.1.alloc _, MD79.out.2.2.2.1.alloc _, MD79.out.2.2.2.2.1.alloc (Nat.le_trans (Nat.le_of_eq HN4.out.symm) MD79.out.2.2.2.2.1.size) _, MD79.out.2.2.2.2.2.1.alloc _, MD79.out.2.2.2.2.2.2.1.alloc _, MD79.out.2.2.2.2.2.2.2.alloc _, Box.new _ _ _⟩
          have HL102 : Hid (w.heap.size ≤ VD2.heap.size) := MD79.out.1.size
          have HL103 : Hid (n4 ≤ VD2.heap.size) := (Nat.le_trans (Nat.le_of_eq HN4.out.symm) MD79.out.2.2.2.2.1.size)
          have HO104 : Hid (∀ g, (Value.slice oa k oc).ownBlock = some g → g < VD2.heap.size) := fun g hg => (MD79.out.2.2.2.2.2.2.2.lt hg).2
          clear MD79
          go_simp
          refine hK.out _ _ ?_ (fun hHeld => ?_)
          · exact ⟨MA101.out.2.2.2.2.2.1.cell 0, MA101.out.2.2.2.2.2.1.cell 1, MA101.out.2.2.2.2.2.2.1.cell 0, MA101.out.2.2.2.2.2.2.1.cell 1, MA101.out.2.2.2.2.2.2.1.cell 2, MA101.out.2.2.2.2.2.2.1.cell 3, MA101.out.2.2.2.2.2.2.1.cell 4⟩
          clear hK K
          clear hHeld
          generalize VD2.alloc (.cells #[.int .i64 0, .int .i64 0] 74) = V100 at MA101 ⊢
          generalize VD2.heap.size = fb at MA101 HL102 HL103 HO104 ⊢
          refine rl 2 fun K hK => ?_
          go_simp
          refine (last47 (fq : Int) fa fw lg k (plB v L fq fw) oa oc _ (by omega) (MA101.out.2.2.2.2.2.2.2.1.vs.le (Nat.zero_le _))).mono ?_
          rintro e wh105 ⟨he, hb⟩
          rw [pl_ahP, pl_ahW, HSP.out, HWY.out] at he
          subst he
          have MA106 : Hid (Below w.heap.size w wh105 ∧ Box wh105 (w.heap.size) 40 #[.slice pa v.n pc, .slice ja v.m jc] ∧ Box wh105 (w.heap.size + 1) 30 #[.int .i64 (fq : Int), .int .i64 fa, .int .i64 fw] ∧ Box wh105 (w.heap.size + 1 + 1) 35 #[.bool false, .int .i64 0, .int .i64 0, .int .i64 0, .int .i64 0, .slice none 0 0] ∧ Below n4 w4 wh105 ∧ Box wh105 (rb) 87 #[.pointer (some ⟨bt, 0, none⟩), .slice la v.m lc] ∧ Box wh105 (bq) 90 #[.int .i64 (fq : Int), .int .i64 fa, .int .i64 fw, .int .i64 lg, .slice oa k oc] ∧ VOwn n4 74 2 wh105 (.slice oa k oc) k (intF (plB v L fq fw)) ∧ Box wh105 (fb) 74 #[.int .i64 0, .int .i64 0]) := ⟨MA101.out.1.trans (hb.mono MA101.out.1.size), MA101.out.2.1.mono hb (Nat.le_refl _), MA101.out.2.2.1.mono hb (Nat.le_refl _), MA101.out.2.2.2.1.mono hb (Nat.le_refl _), MA101.out.2.2.2.2.1.trans (hb.mono (Nat.le_trans (Nat.le_of_eq HN4.out.symm) MA101.out.2.2.2.2.1.size)), MA101.out.2.2.2.2.2.1.mono hb (Nat.le_refl _), MA101.out.2.2.2.2.2.2.1.mono hb (Nat.le_refl _), MA101.out.2.2.2.2.2.2.2.1.mono (Nat.le_refl _) hb (Nat.le_refl _), MA101.out.2.2.2.2.2.2.2.2.mono hb (Nat.le_refl _)⟩
          clear hb MA101
          go_wp2_with fail
          refine hK.out _ _ ?_ (fun hHeld => ?_)
          · exact ⟨MA106.out.2.2.2.2.2.1.cell 0, MA106.out.2.2.2.2.2.1.cell 1, MA106.out.2.2.2.2.2.2.1.cell 0, MA106.out.2.2.2.2.2.2.1.cell 1, MA106.out.2.2.2.2.2.2.1.cell 2, MA106.out.2.2.2.2.2.2.1.cell 3, MA106.out.2.2.2.2.2.2.1.cell 4⟩
          clear hK K
          refine rl 3 fun K hK => ?_
          go_simp
          refine (comes46 OK.out.1 sp wy la lc L _ (HTK.out.mono MA106.out.2.2.2.2.1 (Nat.le_of_eq HN4.out)) hspn hswy (H.out.2.2.2.2.mono (Nat.le_refl _) MA106.out.1 (Nat.le_refl _)) OK.out.2.2).mono ?_
          rintro e wh107 ⟨a, b, he, hab, hb⟩
          have HAB : Hid (cd = 0 → a = (nextAt v L sp (-wy)).pc ∧ b = -(wayOf (nextAt v L sp (-wy)))) := by rw [HCD.out] at hab; exact hab
          rw [HCD.out] at he
          subst he
          clear hab
          have MA108 : Hid (Below w.heap.size w wh107 ∧ Box wh107 (w.heap.size) 40 #[.slice pa v.n pc, .slice ja v.m jc] ∧ Box wh107 (w.heap.size + 1) 30 #[.int .i64 (fq : Int), .int .i64 fa, .int .i64 fw] ∧ Box wh107 (w.heap.size + 1 + 1) 35 #[.bool false, .int .i64 0, .int .i64 0, .int .i64 0, .int .i64 0, .slice none 0 0] ∧ Below n4 w4 wh107 ∧ Box wh107 (rb) 87 #[.pointer (some ⟨bt, 0, none⟩), .slice la v.m lc] ∧ Box wh107 (bq) 90 #[.int .i64 (fq : Int), .int .i64 fa, .int .i64 fw, .int .i64 lg, .slice oa k oc] ∧ VOwn n4 74 2 wh107 (.slice oa k oc) k (intF (plB v L fq fw)) ∧ Box wh107 (fb) 74 #[.int .i64 0, .int .i64 0]) := ⟨MA106.out.1.trans (hb.mono MA106.out.1.size), MA106.out.2.1.mono hb (Nat.le_refl _), MA106.out.2.2.1.mono hb (Nat.le_refl _), MA106.out.2.2.2.1.mono hb (Nat.le_refl _), MA106.out.2.2.2.2.1.trans (hb.mono (Nat.le_trans (Nat.le_of_eq HN4.out.symm) MA106.out.2.2.2.2.1.size)), MA106.out.2.2.2.2.2.1.mono hb (Nat.le_refl _), MA106.out.2.2.2.2.2.2.1.mono hb (Nat.le_refl _), MA106.out.2.2.2.2.2.2.2.1.mono (Nat.le_refl _) hb (Nat.le_refl _), MA106.out.2.2.2.2.2.2.2.2.mono hb (Nat.le_refl _)⟩
          clear hb MA106
          go_wp2_with fail
          refine hK.out _ _ ?_ (fun hHeld => ?_)
          · exact ⟨MA108.out.2.2.2.2.2.1.cell 0, MA108.out.2.2.2.2.2.1.cell 1, MA108.out.2.2.2.2.2.2.1.cell 0, MA108.out.2.2.2.2.2.2.1.cell 1, MA108.out.2.2.2.2.2.2.1.cell 2, MA108.out.2.2.2.2.2.2.1.cell 3, MA108.out.2.2.2.2.2.2.1.cell 4⟩
          clear hK K
          refine tk 4 ?_
          refine tk 5 ?_
          refine tk 6 ?_
          have z0 : wh107.cell? ⟨fb, 0, none⟩ = some (.int .i64 0) := MA108.out.2.2.2.2.2.2.2.2.cell 0
          have z1 : wh107.cell? ⟨fb, 1, none⟩ = some (.int .i64 0) := MA108.out.2.2.2.2.2.2.2.2.cell 1
          have zf0 := MA108.out.2.2.2.2.2.2.2.2.free 0
          have zf1 := MA108.out.2.2.2.2.2.2.2.2.free 1
          have MA109 : Hid (Below w.heap.size w ((wh107.setCell ⟨fb, 0, none⟩ (.int .i64 a)).setCell ⟨fb, 1, none⟩ (.int .i64 b)) ∧ Box ((wh107.setCell ⟨fb, 0, none⟩ (.int .i64 a)).setCell ⟨fb, 1, none⟩ (.int .i64 b)) (w.heap.size) 40 #[.slice pa v.n pc, .slice ja v.m jc] ∧ Box ((wh107.setCell ⟨fb, 0, none⟩ (.int .i64 a)).setCell ⟨fb, 1, none⟩ (.int .i64 b)) (w.heap.size + 1) 30 #[.int .i64 (fq : Int), .int .i64 fa, .int .i64 fw] ∧ Box ((wh107.setCell ⟨fb, 0, none⟩ (.int .i64 a)).setCell ⟨fb, 1, none⟩ (.int .i64 b)) (w.heap.size + 1 + 1) 35 #[.bool false, .int .i64 0, .int .i64 0, .int .i64 0, .int .i64 0, .slice none 0 0] ∧ Below n4 w4 ((wh107.setCell ⟨fb, 0, none⟩ (.int .i64 a)).setCell ⟨fb, 1, none⟩ (.int .i64 b)) ∧ Box ((wh107.setCell ⟨fb, 0, none⟩ (.int .i64 a)).setCell ⟨fb, 1, none⟩ (.int .i64 b)) (rb) 87 #[.pointer (some ⟨bt, 0, none⟩), .slice la v.m lc] ∧ Box ((wh107.setCell ⟨fb, 0, none⟩ (.int .i64 a)).setCell ⟨fb, 1, none⟩ (.int .i64 b)) (bq) 90 #[.int .i64 (fq : Int), .int .i64 fa, .int .i64 fw, .int .i64 lg, .slice oa k oc] ∧ VOwn n4 74 2 ((wh107.setCell ⟨fb, 0, none⟩ (.int .i64 a)).setCell ⟨fb, 1, none⟩ (.int .i64 b)) (.slice oa k oc) k (intF (plB v L fq fw)) ∧ Box ((wh107.setCell ⟨fb, 0, none⟩ (.int .i64 a)).setCell ⟨fb, 1, none⟩ (.int .i64 b)) (fb) 74 #[.int .i64 a, .int .i64 b]) := ⟨((MA108.out.1.setCell HL102.out _).setCell HL102.out _), ((MA108.out.2.1.other (box_ne MA108.out.2.1 MA108.out.2.2.2.2.2.2.2.2 (by decide)) _).other (box_ne MA108.out.2.1 MA108.out.2.2.2.2.2.2.2.2 (by decide)) _), ((MA108.out.2.2.1.other (box_ne MA108.out.2.2.1 MA108.out.2.2.2.2.2.2.2.2 (by decide)) _).other (box_ne MA108.out.2.2.1 MA108.out.2.2.2.2.2.2.2.2 (by decide)) _), ((MA108.out.2.2.2.1.other (box_ne MA108.out.2.2.2.1 MA108.out.2.2.2.2.2.2.2.2 (by decide)) _).other (box_ne MA108.out.2.2.2.1 MA108.out.2.2.2.2.2.2.2.2 (by decide)) _), ((MA108.out.2.2.2.2.1.setCell HL103.out _).setCell HL103.out _), ((MA108.out.2.2.2.2.2.1.other (box_ne MA108.out.2.2.2.2.2.1 MA108.out.2.2.2.2.2.2.2.2 (by decide)) _).other (box_ne MA108.out.2.2.2.2.2.1 MA108.out.2.2.2.2.2.2.2.2 (by decide)) _), ((MA108.out.2.2.2.2.2.2.1.other (box_ne MA108.out.2.2.2.2.2.2.1 MA108.out.2.2.2.2.2.2.2.2 (by decide)) _).other (box_ne MA108.out.2.2.2.2.2.2.1 MA108.out.2.2.2.2.2.2.2.2 (by decide)) _), ((MA108.out.2.2.2.2.2.2.2.1.high HO104.out 0 _).high HO104.out 1 _), by have h9 := ((MA108.out.2.2.2.2.2.2.2.2.set 0 (.int .i64 a)).set 1 (.int .i64 b)); exact h9⟩
          clear MA108
          refine rl 8 fun K hK => ?_
          go_simp
          refine hK.out _ _ ?_ (fun hHeld => ?_)
          · exact ⟨MA109.out.2.2.2.2.2.1.cell 0, MA109.out.2.2.2.2.2.1.cell 1, MA109.out.2.2.2.2.2.2.1.cell 0, MA109.out.2.2.2.2.2.2.1.cell 1, MA109.out.2.2.2.2.2.2.1.cell 2, MA109.out.2.2.2.2.2.2.1.cell 3, MA109.out.2.2.2.2.2.2.1.cell 4⟩
          clear hK K
          refine tk 9 ?_
          refine wpAnyH_done (by kernel_rfl) ?_ _
          clear z0 z1 zf0 zf1 hHeld
          generalize ((wh107.setCell ⟨fb, 0, none⟩ (.int .i64 a)).setCell ⟨fb, 1, none⟩ (.int .i64 b)) = W110 at MA109 ⊢
          go_wp2_with fail
          go_meet
          case rel => exact ⟨fb, a, b, rfl, rfl, HAB, MA109⟩
      case rest =>
        obtain ⟨fb, a, b, rfl, rfl, HAB, E⟩ := hcut
        clear MN
        generalize wc = W8 at E ⊢
        by_cases hcd : cd = 0
        · by_cases hkk : k = 200
          · subst hcd
            have hk200 : ((k : Int) == 200) = true := by simp; omega
            have t0 : W8.cell? ⟨bq, 0, none⟩ = some (.int .i64 (fq : Int)) := E.out.2.2.2.2.2.2.1.cell 0
            have t1 : W8.cell? ⟨bq, 1, none⟩ = some (.int .i64 fa) := E.out.2.2.2.2.2.2.1.cell 1
            have t2 : W8.cell? ⟨bq, 2, none⟩ = some (.int .i64 fw) := E.out.2.2.2.2.2.2.1.cell 2
            have t3 : W8.cell? ⟨bq, 3, none⟩ = some (.int .i64 lg) := E.out.2.2.2.2.2.2.1.cell 3
            have t4 : W8.cell? ⟨bq, 4, none⟩ = some (.slice oa k oc) := E.out.2.2.2.2.2.2.1.cell 4
            have E0 : Hid (Below w.heap.size w W8 ∧ Box W8 (w.heap.size) 40 #[.slice pa v.n pc, .slice ja v.m jc] ∧ Box W8 (w.heap.size + 1) 30 #[.int .i64 (fq : Int), .int .i64 fa, .int .i64 fw] ∧ Box W8 (w.heap.size + 1 + 1) 35 #[.bool false, .int .i64 0, .int .i64 0, .int .i64 0, .int .i64 0, .slice none 0 0] ∧ Below n4 w4 W8 ∧ Box W8 (rb) 87 #[.pointer (some ⟨bt, 0, none⟩), .slice la v.m lc] ∧ Box W8 (bq) 90 #[.int .i64 (fq : Int), .int .i64 fa, .int .i64 fw, .int .i64 lg, .slice oa k oc] ∧ VOwn n4 74 2 W8 (.slice oa k oc) k (intF (plB v L fq fw))) := ⟨E.out.1, E.out.2.1, E.out.2.2.1, E.out.2.2.2.1, E.out.2.2.2.2.1, E.out.2.2.2.2.2.1, E.out.2.2.2.2.2.2.1, E.out.2.2.2.2.2.2.2.1⟩
            clear E
            have HN : Hid (plO v v.m L (fq : Int) fa fw lg = none) := HO.out.trans (HG.out.symm.trans (plG_no (by omega) (Or.inr (by omega))))
            have z0 : W8.cell? ⟨w.heap.size + 1 + 1, 0, none⟩ = some (.bool false) := E0.out.2.2.2.1.cell 0
            have z1 : W8.cell? ⟨w.heap.size + 1 + 1, 1, none⟩ = some (.int .i64 0) := E0.out.2.2.2.1.cell 1
            have z2 : W8.cell? ⟨w.heap.size + 1 + 1, 2, none⟩ = some (.int .i64 0) := E0.out.2.2.2.1.cell 2
            have z3 : W8.cell? ⟨w.heap.size + 1 + 1, 3, none⟩ = some (.int .i64 0) := E0.out.2.2.2.1.cell 3
            have z4 : W8.cell? ⟨w.heap.size + 1 + 1, 4, none⟩ = some (.int .i64 0) := E0.out.2.2.2.1.cell 4
            have z5 : W8.cell? ⟨w.heap.size + 1 + 1, 5, none⟩ = some (.slice none 0 0) := E0.out.2.2.2.1.cell 5
            have zf0 := E0.out.2.2.2.1.free 0
            have zf1 := E0.out.2.2.2.1.free 1
            have zf2 := E0.out.2.2.2.1.free 2
            have zf3 := E0.out.2.2.2.1.free 3
            have zf4 := E0.out.2.2.2.1.free 4
            have zf5 := E0.out.2.2.2.1.free 5
            have MA111 : Hid (Below w.heap.size w ((((((W8.setCell ⟨w.heap.size + 1 + 1, 0, none⟩ (.bool false)).setCell ⟨w.heap.size + 1 + 1, 1, none⟩ (.int .i64 0)).setCell ⟨w.heap.size + 1 + 1, 2, none⟩ (.int .i64 0)).setCell ⟨w.heap.size + 1 + 1, 3, none⟩ (.int .i64 0)).setCell ⟨w.heap.size + 1 + 1, 4, none⟩ (.int .i64 0)).setCell ⟨w.heap.size + 1 + 1, 5, none⟩ (.slice none 0 0)) ∧ Box ((((((W8.setCell ⟨w.heap.size + 1 + 1, 0, none⟩ (.bool false)).setCell ⟨w.heap.size + 1 + 1, 1, none⟩ (.int .i64 0)).setCell ⟨w.heap.size + 1 + 1, 2, none⟩ (.int .i64 0)).setCell ⟨w.heap.size + 1 + 1, 3, none⟩ (.int .i64 0)).setCell ⟨w.heap.size + 1 + 1, 4, none⟩ (.int .i64 0)).setCell ⟨w.heap.size + 1 + 1, 5, none⟩ (.slice none 0 0)) (w.heap.size) 40 #[.slice pa v.n pc, .slice ja v.m jc] ∧ Box ((((((W8.setCell ⟨w.heap.size + 1 + 1, 0, none⟩ (.bool false)).setCell ⟨w.heap.size + 1 + 1, 1, none⟩ (.int .i64 0)).setCell ⟨w.heap.size + 1 + 1, 2, none⟩ (.int .i64 0)).setCell ⟨w.heap.size + 1 + 1, 3, none⟩ (.int .i64 0)).setCell ⟨w.heap.size + 1 + 1, 4, none⟩ (.int .i64 0)).setCell ⟨w.heap.size + 1 + 1, 5, none⟩ (.slice none 0 0)) (w.heap.size + 1) 30 #[.int .i64 (fq : Int), .int .i64 fa, .int .i64 fw] ∧ Box ((((((W8.setCell ⟨w.heap.size + 1 + 1, 0, none⟩ (.bool false)).setCell ⟨w.heap.size + 1 + 1, 1, none⟩ (.int .i64 0)).setCell ⟨w.heap.size + 1 + 1, 2, none⟩ (.int .i64 0)).setCell ⟨w.heap.size + 1 + 1, 3, none⟩ (.int .i64 0)).setCell ⟨w.heap.size + 1 + 1, 4, none⟩ (.int .i64 0)).setCell ⟨w.heap.size + 1 + 1, 5, none⟩ (.slice none 0 0)) (w.heap.size + 1 + 1) 35 #[.bool false, .int .i64 0, .int .i64 0, .int .i64 0, .int .i64 0, .slice none 0 0] ∧ Box ((((((W8.setCell ⟨w.heap.size + 1 + 1, 0, none⟩ (.bool false)).setCell ⟨w.heap.size + 1 + 1, 1, none⟩ (.int .i64 0)).setCell ⟨w.heap.size + 1 + 1, 2, none⟩ (.int .i64 0)).setCell ⟨w.heap.size + 1 + 1, 3, none⟩ (.int .i64 0)).setCell ⟨w.heap.size + 1 + 1, 4, none⟩ (.int .i64 0)).setCell ⟨w.heap.size + 1 + 1, 5, none⟩ (.slice none 0 0)) (rb) 87 #[.pointer (some ⟨bt, 0, none⟩), .slice la v.m lc] ∧ Box ((((((W8.setCell ⟨w.heap.size + 1 + 1, 0, none⟩ (.bool false)).setCell ⟨w.heap.size + 1 + 1, 1, none⟩ (.int .i64 0)).setCell ⟨w.heap.size + 1 + 1, 2, none⟩ (.int .i64 0)).setCell ⟨w.heap.size + 1 + 1, 3, none⟩ (.int .i64 0)).setCell ⟨w.heap.size + 1 + 1, 4, none⟩ (.int .i64 0)).setCell ⟨w.heap.size + 1 + 1, 5, none⟩ (.slice none 0 0)) (bq) 90 #[.int .i64 (fq : Int), .int .i64 fa, .int .i64 fw, .int .i64 lg, .slice oa k oc] ∧ VOwn n4 74 2 ((((((W8.setCell ⟨w.heap.size + 1 + 1, 0, none⟩ (.bool false)).setCell ⟨w.heap.size + 1 + 1, 1, none⟩ (.int .i64 0)).setCell ⟨w.heap.size + 1 + 1, 2, none⟩ (.int .i64 0)).setCell ⟨w.heap.size + 1 + 1, 3, none⟩ (.int .i64 0)).setCell ⟨w.heap.size + 1 + 1, 4, none⟩ (.int .i64 0)).setCell ⟨w.heap.size + 1 + 1, 5, none⟩ (.slice none 0 0)) (.slice oa k oc) k (intF (plB v L fq fw))) := ⟨((((((E0.out.1.setCell (Nat.le_add_right _ 2) _).setCell (Nat.le_add_right _ 2) _).setCell (Nat.le_add_right _ 2) _).setCell (Nat.le_add_right _ 2) _).setCell (Nat.le_add_right _ 2) _).setCell (Nat.le_add_right _ 2) _), ((((((E0.out.2.1.other (box_ne E0.out.2.1 E0.out.2.2.2.1 (by decide)) _).other (box_ne E0.out.2.1 E0.out.2.2.2.1 (by decide)) _).other (box_ne E0.out.2.1 E0.out.2.2.2.1 (by decide)) _).other (box_ne E0.out.2.1 E0.out.2.2.2.1 (by decide)) _).other (box_ne E0.out.2.1 E0.out.2.2.2.1 (by decide)) _).other (box_ne E0.out.2.1 E0.out.2.2.2.1 (by decide)) _), ((((((E0.out.2.2.1.other (box_ne E0.out.2.2.1 E0.out.2.2.2.1 (by decide)) _).other (box_ne E0.out.2.2.1 E0.out.2.2.2.1 (by decide)) _).other (box_ne E0.out.2.2.1 E0.out.2.2.2.1 (by decide)) _).other (box_ne E0.out.2.2.1 E0.out.2.2.2.1 (by decide)) _).other (box_ne E0.out.2.2.1 E0.out.2.2.2.1 (by decide)) _).other (box_ne E0.out.2.2.1 E0.out.2.2.2.1 (by decide)) _), by have h9 := ((((((E0.out.2.2.2.1.set 0 (.bool false)).set 1 (.int .i64 0)).set 2 (.int .i64 0)).set 3 (.int .i64 0)).set 4 (.int .i64 0)).set 5 (.slice none 0 0)); exact h9, ((((((E0.out.2.2.2.2.2.1.other (box_ne E0.out.2.2.2.2.2.1 E0.out.2.2.2.1 (by decide)) _).other (box_ne E0.out.2.2.2.2.2.1 E0.out.2.2.2.1 (by decide)) _).other (box_ne E0.out.2.2.2.2.2.1 E0.out.2.2.2.1 (by decide)) _).other (box_ne E0.out.2.2.2.2.2.1 E0.out.2.2.2.1 (by decide)) _).other (box_ne E0.out.2.2.2.2.2.1 E0.out.2.2.2.1 (by decide)) _).other (box_ne E0.out.2.2.2.2.2.1 E0.out.2.2.2.1 (by decide)) _), ((((((E0.out.2.2.2.2.2.2.1.other (box_ne E0.out.2.2.2.2.2.2.1 E0.out.2.2.2.1 (by decide)) _).other (box_ne E0.out.2.2.2.2.2.2.1 E0.out.2.2.2.1 (by decide)) _).other (box_ne E0.out.2.2.2.2.2.2.1 E0.out.2.2.2.1 (by decide)) _).other (box_ne E0.out.2.2.2.2.2.2.1 E0.out.2.2.2.1 (by decide)) _).other (box_ne E0.out.2.2.2.2.2.2.1 E0.out.2.2.2.1 (by decide)) _).other (box_ne E0.out.2.2.2.2.2.2.1 E0.out.2.2.2.1 (by decide)) _), ((((((E0.out.2.2.2.2.2.2.2.set E0.out.2.2.2.1 (by decide) 0 _).set (E0.out.2.2.2.1.set 0 (.bool false)) (by decide) 1 _).set ((E0.out.2.2.2.1.set 0 (.bool false)).set 1 (.int .i64 0)) (by decide) 2 _).set (((E0.out.2.2.2.1.set 0 (.bool false)).set 1 (.int .i64 0)).set 2 (.int .i64 0)) (by decide) 3 _).set ((((E0.out.2.2.2.1.set 0 (.bool false)).set 1 (.int .i64 0)).set 2 (.int .i64 0)).set 3 (.int .i64 0)) (by decide) 4 _).set (((((E0.out.2.2.2.1.set 0 (.bool false)).set 1 (.int .i64 0)).set 2 (.int .i64 0)).set 3 (.int .i64 0)).set 4 (.int .i64 0)) (by decide) 5 _)⟩
            clear E0
            go_wp2_with fail
            clear t0 t1 t2 t3 t4 z0 z1 z2 z3 z4 z5 zf0 zf1 zf2 zf3 zf4 zf5
            generalize ((((((W8.setCell ⟨w.heap.size + 1 + 1, 0, none⟩ (.bool false)).setCell ⟨w.heap.size + 1 + 1, 1, none⟩ (.int .i64 0)).setCell ⟨w.heap.size + 1 + 1, 2, none⟩ (.int .i64 0)).setCell ⟨w.heap.size + 1 + 1, 3, none⟩ (.int .i64 0)).setCell ⟨w.heap.size + 1 + 1, 4, none⟩ (.int .i64 0)).setCell ⟨w.heap.size + 1 + 1, 5, none⟩ (.slice none 0 0)) = W9 at MA111 ⊢
            have z0 : W9.cell? ⟨w.heap.size + 1 + 1, 0, none⟩ = some (.bool false) := MA111.out.2.2.2.1.cell 0
            have z1 : W9.cell? ⟨w.heap.size + 1 + 1, 1, none⟩ = some (.int .i64 0) := MA111.out.2.2.2.1.cell 1
            have z2 : W9.cell? ⟨w.heap.size + 1 + 1, 2, none⟩ = some (.int .i64 0) := MA111.out.2.2.2.1.cell 2
            have z3 : W9.cell? ⟨w.heap.size + 1 + 1, 3, none⟩ = some (.int .i64 0) := MA111.out.2.2.2.1.cell 3
            have z4 : W9.cell? ⟨w.heap.size + 1 + 1, 4, none⟩ = some (.int .i64 0) := MA111.out.2.2.2.1.cell 4
            have z5 : W9.cell? ⟨w.heap.size + 1 + 1, 5, none⟩ = some (.slice none 0 0) := MA111.out.2.2.2.1.cell 5
            exact bodyPost_ret (v := .agg #[.bool false, .int .i64 0, .int .i64 0, .int .i64 0, .int .i64 0, .slice none 0 0]) (by simp [results, Tryz.results11, go_sem, z0, z1, z2, z3, z4, z5]) rfl (pl_no HN.out rfl MA111.out.1)
          · subst hcd
            obtain ⟨q2, hq2, hq2n⟩ := next_pc OK.out.1 hspn OK.out.2.2 HCD.out
            have HQ2 : Hid (plB v L fq fw k 0 = a ∧ plB v L fq fw k 1 = b) := by
              have e0 : plB v L fq fw k 0 = ((nextAt v L (plS v L fq fw k).1 (-(plS v L fq fw k).2)).pc.toNat : Int) := rfl
              have e1 : plB v L fq fw k 1 = -(wayOf (nextAt v L (plS v L fq fw k).1 (-(plS v L fq fw k).2))) := rfl
              rw [HSP.out, HWY.out] at e0 e1
              rw [hq2, Int.toNat_natCast] at e0
              have h9 := HAB.out rfl
              exact ⟨e0.trans (hq2.symm.trans h9.1.symm), e1.trans h9.2.symm⟩
            clear hq2
            have hk200 : ((k : Int) == 200) = false := by simp; omega
            have d0 : W8.cell? ⟨bq, 0, none⟩ = some (.int .i64 (fq : Int)) := E.out.2.2.2.2.2.2.1.cell 0
            have d1 : W8.cell? ⟨bq, 1, none⟩ = some (.int .i64 fa) := E.out.2.2.2.2.2.2.1.cell 1
            have d2 : W8.cell? ⟨bq, 2, none⟩ = some (.int .i64 fw) := E.out.2.2.2.2.2.2.1.cell 2
            have d3 : W8.cell? ⟨bq, 3, none⟩ = some (.int .i64 lg) := E.out.2.2.2.2.2.2.1.cell 3
            have d4 : W8.cell? ⟨bq, 4, none⟩ = some (.slice oa k oc) := E.out.2.2.2.2.2.2.1.cell 4
            have e0 : W8.cell? ⟨fb, 0, none⟩ = some (.int .i64 a) := E.out.2.2.2.2.2.2.2.2.cell 0
            have e1 : W8.cell? ⟨fb, 1, none⟩ = some (.int .i64 b) := E.out.2.2.2.2.2.2.2.2.cell 1
            have HVS : Hid ((#[.int .i64 a, .int .i64 b] : Array Value).toList = (List.range 2).map (intF (plB v L fq fw) k)) := by
              show _ = _
              simp [List.range_succ, intF, HQ2.out.1, HQ2.out.2]
            have hsz : n4 ≤ (W8.alloc (.cells #[.int .i64 a, .int .i64 b] 74)).heap.size := Nat.le_trans (Nat.le_trans (Nat.le_of_eq HN4.out.symm) E.out.2.2.2.2.1.size) (bel1 _ _).size
            go_wp2_with (at_builtin; go_must (refine wpList_vapp _ rfl _ _ 31 rfl n4 74 i0 _ 2 16 Tryz.underlying31 hi0 hz0 hs0 hb0 rfl (by decide) (.slice oa k oc) k (intF (plB v L fq fw)) rfl (E.out.2.2.2.2.2.2.2.1.alloc _) (fun _ _ => rfl) W8.heap.size 1 #[.int .i64 a, .int .i64 b] rfl (Box.new _ _ _) HVS.out (by simp only [maxLen]; omega) (by omega) hsz (Halt.mk ?_)))
            intro v2 w13 ho2 hg2
            obtain ⟨av, cv, rfl⟩ := ho2.val
            have MG : Hid (Below w.heap.size w w13 ∧ Box w13 (w.heap.size) 40 #[.slice pa v.n pc, .slice ja v.m jc] ∧ Box w13 (w.heap.size + 1) 30 #[.int .i64 (fq : Int), .int .i64 fa, .int .i64 fw] ∧ Box w13 (w.heap.size + 1 + 1) 35 #[.bool false, .int .i64 0, .int .i64 0, .int .i64 0, .int .i64 0, .slice none 0 0] ∧ Below n4 w4 w13 ∧ Box w13 (rb) 87 #[.pointer (some ⟨bt, 0, none⟩), .slice la v.m lc] ∧ Box w13 (bq) 90 #[.int .i64 (fq : Int), .int .i64 fa, .int .i64 fw, .int .i64 lg, .slice oa k oc] ∧ VOwn n4 74 2 w13 (.slice av (k + 1) cv) (k + 1) (intF (plB v L fq fw))) := ⟨bel_grow E.out.1 E.out.2.2.2.2.2.2.2.1 E.out.1.size HW4.out hg2, box_grow E.out.2.1 E.out.2.2.2.2.2.2.2.1 (by decide) hg2, box_grow E.out.2.2.1 E.out.2.2.2.2.2.2.2.1 (by decide) hg2, box_grow E.out.2.2.2.1 E.out.2.2.2.2.2.2.2.1 (by decide) hg2, bel_grow E.out.2.2.2.2.1 E.out.2.2.2.2.2.2.2.1 (Nat.le_trans (Nat.le_of_eq HN4.out.symm) E.out.2.2.2.2.1.size) (Nat.le_refl _) hg2, box_grow E.out.2.2.2.2.2.1 E.out.2.2.2.2.2.2.2.1 (by decide) hg2, box_grow E.out.2.2.2.2.2.2.1 E.out.2.2.2.2.2.2.2.1 (by decide) hg2, ho2⟩
            clear ho2 hg2 hsz E
            clear d0 d1 d2 d3 d4 e0 e1
            have d0 : w13.cell? ⟨bq, 0, none⟩ = some (.int .i64 (fq : Int)) := MG.out.2.2.2.2.2.2.1.cell 0
            have d1 : w13.cell? ⟨bq, 1, none⟩ = some (.int .i64 fa) := MG.out.2.2.2.2.2.2.1.cell 1
            have d2 : w13.cell? ⟨bq, 2, none⟩ = some (.int .i64 fw) := MG.out.2.2.2.2.2.2.1.cell 2
            have d3 : w13.cell? ⟨bq, 3, none⟩ = some (.int .i64 lg) := MG.out.2.2.2.2.2.2.1.cell 3
            have d4 : w13.cell? ⟨bq, 4, none⟩ = some (.slice oa k oc) := MG.out.2.2.2.2.2.2.1.cell 4
            have df0 := MG.out.2.2.2.2.2.2.1.free 0
            have df1 := MG.out.2.2.2.2.2.2.1.free 1
            have df2 := MG.out.2.2.2.2.2.2.1.free 2
            have df3 := MG.out.2.2.2.2.2.2.1.free 3
            have df4 := MG.out.2.2.2.2.2.2.1.free 4
            have MA74 : Hid (Below w.heap.size w (w13.setCell ⟨bq, 4, none⟩ (.slice av (k + 1) cv)) ∧ Box (w13.setCell ⟨bq, 4, none⟩ (.slice av (k + 1) cv)) (w.heap.size) 40 #[.slice pa v.n pc, .slice ja v.m jc] ∧ Box (w13.setCell ⟨bq, 4, none⟩ (.slice av (k + 1) cv)) (w.heap.size + 1) 30 #[.int .i64 (fq : Int), .int .i64 fa, .int .i64 fw] ∧ Box (w13.setCell ⟨bq, 4, none⟩ (.slice av (k + 1) cv)) (w.heap.size + 1 + 1) 35 #[.bool false, .int .i64 0, .int .i64 0, .int .i64 0, .int .i64 0, .slice none 0 0] ∧ Below n4 w4 (w13.setCell ⟨bq, 4, none⟩ (.slice av (k + 1) cv)) ∧ Box (w13.setCell ⟨bq, 4, none⟩ (.slice av (k + 1) cv)) (rb) 87 #[.pointer (some ⟨bt, 0, none⟩), .slice la v.m lc] ∧ Box (w13.setCell ⟨bq, 4, none⟩ (.slice av (k + 1) cv)) (bq) 90 #[.int .i64 (fq : Int), .int .i64 fa, .int .i64 fw, .int .i64 lg, .slice av (k + 1) cv] ∧ VOwn n4 74 2 (w13.setCell ⟨bq, 4, none⟩ (.slice av (k + 1) cv)) (.slice av (k + 1) cv) (k + 1) (intF (plB v L fq fw))) := ⟨(MG.out.1.setCell HL72.out _), (MG.out.2.1.other (box_ne MG.out.2.1 MG.out.2.2.2.2.2.2.1 (by decide)) _), (MG.out.2.2.1.other (box_ne MG.out.2.2.1 MG.out.2.2.2.2.2.2.1 (by decide)) _), (MG.out.2.2.2.1.other (box_ne MG.out.2.2.2.1 MG.out.2.2.2.2.2.2.1 (by decide)) _), (MG.out.2.2.2.2.1.setCell HL73.out _), (MG.out.2.2.2.2.2.1.other (box_ne MG.out.2.2.2.2.2.1 MG.out.2.2.2.2.2.2.1 (by decide)) _), by have h9 := (MG.out.2.2.2.2.2.2.1.set 4 (.slice av (k + 1) cv)); exact h9, (MG.out.2.2.2.2.2.2.2.set MG.out.2.2.2.2.2.2.1 (by decide) 4 _)⟩
            clear MG
            have HCN : Hid (∀ i, i < k + 1 → plC v L fq fw i = 0) := fun i hi => by
              by_cases c : i = k
              · rw [c]; exact HPC.out
              · exact HC.out i (by omega)
            have HLN : Hid (∀ i, i < k + 1 → hvF v (fq : Int) fa fw (plB v L fq fw) i < lg) := fun i hi => by
              by_cases c : i = k
              · rw [c]; exact hlt
              · exact HLT.out i (by omega)
            have HM2 : Hid (lenAt ((w13.setCell ⟨bq, 4, none⟩ (.slice av (k + 1) cv)).cell? ⟨bq, 4, none⟩) = k + 1) := by show lenAt _ = _; rw [show (w13.setCell ⟨bq, 4, none⟩ (.slice av (k + 1) cv)).cell? ⟨bq, 4, none⟩ = some (.slice av (k + 1) cv) from MA74.out.2.2.2.2.2.2.1.cell 4]; rfl
            generalize hgen : (w13.setCell ⟨bq, 4, none⟩ (.slice av (k + 1) cv)) = W14 at MA74 HM2
            go_wp2_with fail
            go_roundw
            case rel => exact ⟨k + 1, av, cv, by omega, (plG_on (by omega) HPC.out (by omega)).symm.trans HG.out, HCN.out, HLN.out, ⟨MA74.out.1, MA74.out.2.1, MA74.out.2.2.1, MA74.out.2.2.2.1, MA74.out.2.2.2.2.1, MA74.out.2.2.2.2.2.1, MA74.out.2.2.2.2.2.2.1, MA74.out.2.2.2.2.2.2.2⟩⟩
            case measure => rw [HM2.out, HML.out]; omega
        · have HCN : Hid (plC v L fq fw k ≠ 0) := by show _ ≠ _; rw [HPC.out]; exact hcd
          have hcd' : (cd != 0) = true := by simpa using hcd
          have t0 : W8.cell? ⟨bq, 0, none⟩ = some (.int .i64 (fq : Int)) := E.out.2.2.2.2.2.2.1.cell 0
          have t1 : W8.cell? ⟨bq, 1, none⟩ = some (.int .i64 fa) := E.out.2.2.2.2.2.2.1.cell 1
          have t2 : W8.cell? ⟨bq, 2, none⟩ = some (.int .i64 fw) := E.out.2.2.2.2.2.2.1.cell 2
          have t3 : W8.cell? ⟨bq, 3, none⟩ = some (.int .i64 lg) := E.out.2.2.2.2.2.2.1.cell 3
          have t4 : W8.cell? ⟨bq, 4, none⟩ = some (.slice oa k oc) := E.out.2.2.2.2.2.2.1.cell 4
          have E0 : Hid (Below w.heap.size w W8 ∧ Box W8 (w.heap.size) 40 #[.slice pa v.n pc, .slice ja v.m jc] ∧ Box W8 (w.heap.size + 1) 30 #[.int .i64 (fq : Int), .int .i64 fa, .int .i64 fw] ∧ Box W8 (w.heap.size + 1 + 1) 35 #[.bool false, .int .i64 0, .int .i64 0, .int .i64 0, .int .i64 0, .slice none 0 0] ∧ Below n4 w4 W8 ∧ Box W8 (rb) 87 #[.pointer (some ⟨bt, 0, none⟩), .slice la v.m lc] ∧ Box W8 (bq) 90 #[.int .i64 (fq : Int), .int .i64 fa, .int .i64 fw, .int .i64 lg, .slice oa k oc] ∧ VOwn n4 74 2 W8 (.slice oa k oc) k (intF (plB v L fq fw))) := ⟨E.out.1, E.out.2.1, E.out.2.2.1, E.out.2.2.2.1, E.out.2.2.2.2.1, E.out.2.2.2.2.2.1, E.out.2.2.2.2.2.2.1, E.out.2.2.2.2.2.2.2.1⟩
          clear E
          have HN : Hid (plO v v.m L (fq : Int) fa fw lg = none) := HO.out.trans (HG.out.symm.trans (plG_no (by omega) (Or.inl HCN.out)))
          have z0 : W8.cell? ⟨w.heap.size + 1 + 1, 0, none⟩ = some (.bool false) := E0.out.2.2.2.1.cell 0
          have z1 : W8.cell? ⟨w.heap.size + 1 + 1, 1, none⟩ = some (.int .i64 0) := E0.out.2.2.2.1.cell 1
          have z2 : W8.cell? ⟨w.heap.size + 1 + 1, 2, none⟩ = some (.int .i64 0) := E0.out.2.2.2.1.cell 2
          have z3 : W8.cell? ⟨w.heap.size + 1 + 1, 3, none⟩ = some (.int .i64 0) := E0.out.2.2.2.1.cell 3
          have z4 : W8.cell? ⟨w.heap.size + 1 + 1, 4, none⟩ = some (.int .i64 0) := E0.out.2.2.2.1.cell 4
          have z5 : W8.cell? ⟨w.heap.size + 1 + 1, 5, none⟩ = some (.slice none 0 0) := E0.out.2.2.2.1.cell 5
          have zf0 := E0.out.2.2.2.1.free 0
          have zf1 := E0.out.2.2.2.1.free 1
          have zf2 := E0.out.2.2.2.1.free 2
          have zf3 := E0.out.2.2.2.1.free 3
          have zf4 := E0.out.2.2.2.1.free 4
          have zf5 := E0.out.2.2.2.1.free 5
          have MA112 : Hid (Below w.heap.size w ((((((W8.setCell ⟨w.heap.size + 1 + 1, 0, none⟩ (.bool false)).setCell ⟨w.heap.size + 1 + 1, 1, none⟩ (.int .i64 0)).setCell ⟨w.heap.size + 1 + 1, 2, none⟩ (.int .i64 0)).setCell ⟨w.heap.size + 1 + 1, 3, none⟩ (.int .i64 0)).setCell ⟨w.heap.size + 1 + 1, 4, none⟩ (.int .i64 0)).setCell ⟨w.heap.size + 1 + 1, 5, none⟩ (.slice none 0 0)) ∧ Box ((((((W8.setCell ⟨w.heap.size + 1 + 1, 0, none⟩ (.bool false)).setCell ⟨w.heap.size + 1 + 1, 1, none⟩ (.int .i64 0)).setCell ⟨w.heap.size + 1 + 1, 2, none⟩ (.int .i64 0)).setCell ⟨w.heap.size + 1 + 1, 3, none⟩ (.int .i64 0)).setCell ⟨w.heap.size + 1 + 1, 4, none⟩ (.int .i64 0)).setCell ⟨w.heap.size + 1 + 1, 5, none⟩ (.slice none 0 0)) (w.heap.size) 40 #[.slice pa v.n pc, .slice ja v.m jc] ∧ Box ((((((W8.setCell ⟨w.heap.size + 1 + 1, 0, none⟩ (.bool false)).setCell ⟨w.heap.size + 1 + 1, 1, none⟩ (.int .i64 0)).setCell ⟨w.heap.size + 1 + 1, 2, none⟩ (.int .i64 0)).setCell ⟨w.heap.size + 1 + 1, 3, none⟩ (.int .i64 0)).setCell ⟨w.heap.size + 1 + 1, 4, none⟩ (.int .i64 0)).setCell ⟨w.heap.size + 1 + 1, 5, none⟩ (.slice none 0 0)) (w.heap.size + 1) 30 #[.int .i64 (fq : Int), .int .i64 fa, .int .i64 fw] ∧ Box ((((((W8.setCell ⟨w.heap.size + 1 + 1, 0, none⟩ (.bool false)).setCell ⟨w.heap.size + 1 + 1, 1, none⟩ (.int .i64 0)).setCell ⟨w.heap.size + 1 + 1, 2, none⟩ (.int .i64 0)).setCell ⟨w.heap.size + 1 + 1, 3, none⟩ (.int .i64 0)).setCell ⟨w.heap.size + 1 + 1, 4, none⟩ (.int .i64 0)).setCell ⟨w.heap.size + 1 + 1, 5, none⟩ (.slice none 0 0)) (w.heap.size + 1 + 1) 35 #[.bool false, .int .i64 0, .int .i64 0, .int .i64 0, .int .i64 0, .slice none 0 0] ∧ Box ((((((W8.setCell ⟨w.heap.size + 1 + 1, 0, none⟩ (.bool false)).setCell ⟨w.heap.size + 1 + 1, 1, none⟩ (.int .i64 0)).setCell ⟨w.heap.size + 1 + 1, 2, none⟩ (.int .i64 0)).setCell ⟨w.heap.size + 1 + 1, 3, none⟩ (.int .i64 0)).setCell ⟨w.heap.size + 1 + 1, 4, none⟩ (.int .i64 0)).setCell ⟨w.heap.size + 1 + 1, 5, none⟩ (.slice none 0 0)) (rb) 87 #[.pointer (some ⟨bt, 0, none⟩), .slice la v.m lc] ∧ Box ((((((W8.setCell ⟨w.heap.size + 1 + 1, 0, none⟩ (.bool false)).setCell ⟨w.heap.size + 1 + 1, 1, none⟩ (.int .i64 0)).setCell ⟨w.heap.size + 1 + 1, 2, none⟩ (.int .i64 0)).setCell ⟨w.heap.size + 1 + 1, 3, none⟩ (.int .i64 0)).setCell ⟨w.heap.size + 1 + 1, 4, none⟩ (.int .i64 0)).setCell ⟨w.heap.size + 1 + 1, 5, none⟩ (.slice none 0 0)) (bq) 90 #[.int .i64 (fq : Int), .int .i64 fa, .int .i64 fw, .int .i64 lg, .slice oa k oc] ∧ VOwn n4 74 2 ((((((W8.setCell ⟨w.heap.size + 1 + 1, 0, none⟩ (.bool false)).setCell ⟨w.heap.size + 1 + 1, 1, none⟩ (.int .i64 0)).setCell ⟨w.heap.size + 1 + 1, 2, none⟩ (.int .i64 0)).setCell ⟨w.heap.size + 1 + 1, 3, none⟩ (.int .i64 0)).setCell ⟨w.heap.size + 1 + 1, 4, none⟩ (.int .i64 0)).setCell ⟨w.heap.size + 1 + 1, 5, none⟩ (.slice none 0 0)) (.slice oa k oc) k (intF (plB v L fq fw))) := ⟨((((((E0.out.1.setCell (Nat.le_add_right _ 2) _).setCell (Nat.le_add_right _ 2) _).setCell (Nat.le_add_right _ 2) _).setCell (Nat.le_add_right _ 2) _).setCell (Nat.le_add_right _ 2) _).setCell (Nat.le_add_right _ 2) _), ((((((E0.out.2.1.other (box_ne E0.out.2.1 E0.out.2.2.2.1 (by decide)) _).other (box_ne E0.out.2.1 E0.out.2.2.2.1 (by decide)) _).other (box_ne E0.out.2.1 E0.out.2.2.2.1 (by decide)) _).other (box_ne E0.out.2.1 E0.out.2.2.2.1 (by decide)) _).other (box_ne E0.out.2.1 E0.out.2.2.2.1 (by decide)) _).other (box_ne E0.out.2.1 E0.out.2.2.2.1 (by decide)) _), ((((((E0.out.2.2.1.other (box_ne E0.out.2.2.1 E0.out.2.2.2.1 (by decide)) _).other (box_ne E0.out.2.2.1 E0.out.2.2.2.1 (by decide)) _).other (box_ne E0.out.2.2.1 E0.out.2.2.2.1 (by decide)) _).other (box_ne E0.out.2.2.1 E0.out.2.2.2.1 (by decide)) _).other (box_ne E0.out.2.2.1 E0.out.2.2.2.1 (by decide)) _).other (box_ne E0.out.2.2.1 E0.out.2.2.2.1 (by decide)) _), by have h9 := ((((((E0.out.2.2.2.1.set 0 (.bool false)).set 1 (.int .i64 0)).set 2 (.int .i64 0)).set 3 (.int .i64 0)).set 4 (.int .i64 0)).set 5 (.slice none 0 0)); exact h9, ((((((E0.out.2.2.2.2.2.1.other (box_ne E0.out.2.2.2.2.2.1 E0.out.2.2.2.1 (by decide)) _).other (box_ne E0.out.2.2.2.2.2.1 E0.out.2.2.2.1 (by decide)) _).other (box_ne E0.out.2.2.2.2.2.1 E0.out.2.2.2.1 (by decide)) _).other (box_ne E0.out.2.2.2.2.2.1 E0.out.2.2.2.1 (by decide)) _).other (box_ne E0.out.2.2.2.2.2.1 E0.out.2.2.2.1 (by decide)) _).other (box_ne E0.out.2.2.2.2.2.1 E0.out.2.2.2.1 (by decide)) _), ((((((E0.out.2.2.2.2.2.2.1.other (box_ne E0.out.2.2.2.2.2.2.1 E0.out.2.2.2.1 (by decide)) _).other (box_ne E0.out.2.2.2.2.2.2.1 E0.out.2.2.2.1 (by decide)) _).other (box_ne E0.out.2.2.2.2.2.2.1 E0.out.2.2.2.1 (by decide)) _).other (box_ne E0.out.2.2.2.2.2.2.1 E0.out.2.2.2.1 (by decide)) _).other (box_ne E0.out.2.2.2.2.2.2.1 E0.out.2.2.2.1 (by decide)) _).other (box_ne E0.out.2.2.2.2.2.2.1 E0.out.2.2.2.1 (by decide)) _), ((((((E0.out.2.2.2.2.2.2.2.set E0.out.2.2.2.1 (by decide) 0 _).set (E0.out.2.2.2.1.set 0 (.bool false)) (by decide) 1 _).set ((E0.out.2.2.2.1.set 0 (.bool false)).set 1 (.int .i64 0)) (by decide) 2 _).set (((E0.out.2.2.2.1.set 0 (.bool false)).set 1 (.int .i64 0)).set 2 (.int .i64 0)) (by decide) 3 _).set ((((E0.out.2.2.2.1.set 0 (.bool false)).set 1 (.int .i64 0)).set 2 (.int .i64 0)).set 3 (.int .i64 0)) (by decide) 4 _).set (((((E0.out.2.2.2.1.set 0 (.bool false)).set 1 (.int .i64 0)).set 2 (.int .i64 0)).set 3 (.int .i64 0)).set 4 (.int .i64 0)) (by decide) 5 _)⟩
          clear E0
          go_wp2_with fail
          clear t0 t1 t2 t3 t4 z0 z1 z2 z3 z4 z5 zf0 zf1 zf2 zf3 zf4 zf5
          generalize ((((((W8.setCell ⟨w.heap.size + 1 + 1, 0, none⟩ (.bool false)).setCell ⟨w.heap.size + 1 + 1, 1, none⟩ (.int .i64 0)).setCell ⟨w.heap.size + 1 + 1, 2, none⟩ (.int .i64 0)).setCell ⟨w.heap.size + 1 + 1, 3, none⟩ (.int .i64 0)).setCell ⟨w.heap.size + 1 + 1, 4, none⟩ (.int .i64 0)).setCell ⟨w.heap.size + 1 + 1, 5, none⟩ (.slice none 0 0)) = W9 at MA112 ⊢
          have z0 : W9.cell? ⟨w.heap.size + 1 + 1, 0, none⟩ = some (.bool false) := MA112.out.2.2.2.1.cell 0
          have z1 : W9.cell? ⟨w.heap.size + 1 + 1, 1, none⟩ = some (.int .i64 0) := MA112.out.2.2.2.1.cell 1
          have z2 : W9.cell? ⟨w.heap.size + 1 + 1, 2, none⟩ = some (.int .i64 0) := MA112.out.2.2.2.1.cell 2
          have z3 : W9.cell? ⟨w.heap.size + 1 + 1, 3, none⟩ = some (.int .i64 0) := MA112.out.2.2.2.1.cell 3
          have z4 : W9.cell? ⟨w.heap.size + 1 + 1, 4, none⟩ = some (.int .i64 0) := MA112.out.2.2.2.1.cell 4
          have z5 : W9.cell? ⟨w.heap.size + 1 + 1, 5, none⟩ = some (.slice none 0 0) := MA112.out.2.2.2.1.cell 5
          exact bodyPost_ret (v := .agg #[.bool false, .int .i64 0, .int .i64 0, .int .i64 0, .int .i64 0, .slice none 0 0]) (by simp [results, Tryz.results11, go_sem, z0, z1, z2, z3, z4, z5]) rfl (pl_no HN.out rfl MA112.out.1)
    ·
      have hzk : ¬ ((k : Int) < (zz : Int)) := by
        obtain ⟨h1, h2, h3⟩ := HZ1.out
        have : ¬ k < zz := fun h => by have := h2 k h (Nat.le_refl _); omega
        omega
      have HSM : Hid (plO v v.m L (fq : Int) fa fw lg = some k) := HO.out.trans (HG.out.symm.trans (plG_in (by omega)))
      have d0 : WN.cell? ⟨bq, 0, none⟩ = some (.int .i64 (fq : Int)) := MN.out.2.2.2.2.2.2.1.cell 0
      have d1 : WN.cell? ⟨bq, 1, none⟩ = some (.int .i64 fa) := MN.out.2.2.2.2.2.2.1.cell 1
      have d2 : WN.cell? ⟨bq, 2, none⟩ = some (.int .i64 fw) := MN.out.2.2.2.2.2.2.1.cell 2
      have d3 : WN.cell? ⟨bq, 3, none⟩ = some (.int .i64 lg) := MN.out.2.2.2.2.2.2.1.cell 3
      have d4 : WN.cell? ⟨bq, 4, none⟩ = some (.slice oa k oc) := MN.out.2.2.2.2.2.2.1.cell 4
      go_wp2_with fail
      clear d0 d1 d2 d3 d4
      refine (train43 (fq : Int) fa fw lg oa k oc _ (plB v L fq fw) WN (by omega) MN.out.2.2.2.2.2.2.2).mono ?_
      rintro e w20 ⟨za, zc, rfl, hoz, hb⟩
      have MA75 : Hid (Below w.heap.size w w20 ∧ Box w20 (w.heap.size) 40 #[.slice pa v.n pc, .slice ja v.m jc] ∧ Box w20 (w.heap.size + 1) 30 #[.int .i64 (fq : Int), .int .i64 fa, .int .i64 fw] ∧ Box w20 (w.heap.size + 1 + 1) 35 #[.bool false, .int .i64 0, .int .i64 0, .int .i64 0, .int .i64 0, .slice none 0 0] ∧ Below n4 w4 w20 ∧ Box w20 (rb) 87 #[.pointer (some ⟨bt, 0, none⟩), .slice la v.m lc] ∧ Box w20 (bq) 90 #[.int .i64 (fq : Int), .int .i64 fa, .int .i64 fw, .int .i64 lg, .slice oa k oc] ∧ VOwn n4 74 2 w20 (.slice oa k oc) k (intF (plB v L fq fw)) ∧ VOwn w.heap.size 74 2 w20 (.slice za k zc) k (intF (plB v L fq fw))) := ⟨MN.out.1.trans (hb.mono MN.out.1.size), MN.out.2.1.mono hb (Nat.le_refl _), MN.out.2.2.1.mono hb (Nat.le_refl _), MN.out.2.2.2.1.mono hb (Nat.le_refl _), MN.out.2.2.2.2.1.trans (hb.mono (Nat.le_trans (Nat.le_of_eq HN4.out.symm) MN.out.2.2.2.2.1.size)), MN.out.2.2.2.2.2.1.mono hb (Nat.le_refl _), MN.out.2.2.2.2.2.2.1.mono hb (Nat.le_refl _), MN.out.2.2.2.2.2.2.2.mono (Nat.le_refl _) hb (Nat.le_refl _), hoz.keep MN.out.1.size (fun _ _ => rfl)⟩
      clear hb MN hoz
      have z0 : w20.cell? ⟨w.heap.size + 1 + 1, 0, none⟩ = some (.bool false) := MA75.out.2.2.2.1.cell 0
      have z1 : w20.cell? ⟨w.heap.size + 1 + 1, 1, none⟩ = some (.int .i64 0) := MA75.out.2.2.2.1.cell 1
      have z2 : w20.cell? ⟨w.heap.size + 1 + 1, 2, none⟩ = some (.int .i64 0) := MA75.out.2.2.2.1.cell 2
      have z3 : w20.cell? ⟨w.heap.size + 1 + 1, 3, none⟩ = some (.int .i64 0) := MA75.out.2.2.2.1.cell 3
      have z4 : w20.cell? ⟨w.heap.size + 1 + 1, 4, none⟩ = some (.int .i64 0) := MA75.out.2.2.2.1.cell 4
      have z5 : w20.cell? ⟨w.heap.size + 1 + 1, 5, none⟩ = some (.slice none 0 0) := MA75.out.2.2.2.1.cell 5
      have zf0 := MA75.out.2.2.2.1.free 0
      have zf1 := MA75.out.2.2.2.1.free 1
      have zf2 := MA75.out.2.2.2.1.free 2
      have zf3 := MA75.out.2.2.2.1.free 3
      have zf4 := MA75.out.2.2.2.1.free 4
      have zf5 := MA75.out.2.2.2.1.free 5
      have MA76 : Hid (Below w.heap.size w ((((((w20.setCell ⟨w.heap.size + 1 + 1, 0, none⟩ (.bool true)).setCell ⟨w.heap.size + 1 + 1, 1, none⟩ (.int .i64 (fq : Int))).setCell ⟨w.heap.size + 1 + 1, 2, none⟩ (.int .i64 fa)).setCell ⟨w.heap.size + 1 + 1, 3, none⟩ (.int .i64 fw)).setCell ⟨w.heap.size + 1 + 1, 4, none⟩ (.int .i64 lg)).setCell ⟨w.heap.size + 1 + 1, 5, none⟩ (.slice za k zc)) ∧ Box ((((((w20.setCell ⟨w.heap.size + 1 + 1, 0, none⟩ (.bool true)).setCell ⟨w.heap.size + 1 + 1, 1, none⟩ (.int .i64 (fq : Int))).setCell ⟨w.heap.size + 1 + 1, 2, none⟩ (.int .i64 fa)).setCell ⟨w.heap.size + 1 + 1, 3, none⟩ (.int .i64 fw)).setCell ⟨w.heap.size + 1 + 1, 4, none⟩ (.int .i64 lg)).setCell ⟨w.heap.size + 1 + 1, 5, none⟩ (.slice za k zc)) (w.heap.size) 40 #[.slice pa v.n pc, .slice ja v.m jc] ∧ Box ((((((w20.setCell ⟨w.heap.size + 1 + 1, 0, none⟩ (.bool true)).setCell ⟨w.heap.size + 1 + 1, 1, none⟩ (.int .i64 (fq : Int))).setCell ⟨w.heap.size + 1 + 1, 2, none⟩ (.int .i64 fa)).setCell ⟨w.heap.size + 1 + 1, 3, none⟩ (.int .i64 fw)).setCell ⟨w.heap.size + 1 + 1, 4, none⟩ (.int .i64 lg)).setCell ⟨w.heap.size + 1 + 1, 5, none⟩ (.slice za k zc)) (w.heap.size + 1) 30 #[.int .i64 (fq : Int), .int .i64 fa, .int .i64 fw] ∧ Box ((((((w20.setCell ⟨w.heap.size + 1 + 1, 0, none⟩ (.bool true)).setCell ⟨w.heap.size + 1 + 1, 1, none⟩ (.int .i64 (fq : Int))).setCell ⟨w.heap.size + 1 + 1, 2, none⟩ (.int .i64 fa)).setCell ⟨w.heap.size + 1 + 1, 3, none⟩ (.int .i64 fw)).setCell ⟨w.heap.size + 1 + 1, 4, none⟩ (.int .i64 lg)).setCell ⟨w.heap.size + 1 + 1, 5, none⟩ (.slice za k zc)) (w.heap.size + 1 + 1) 35 #[.bool true, .int .i64 (fq : Int), .int .i64 fa, .int .i64 fw, .int .i64 lg, .slice za k zc] ∧ Box ((((((w20.setCell ⟨w.heap.size + 1 + 1, 0, none⟩ (.bool true)).setCell ⟨w.heap.size + 1 + 1, 1, none⟩ (.int .i64 (fq : Int))).setCell ⟨w.heap.size + 1 + 1, 2, none⟩ (.int .i64 fa)).setCell ⟨w.heap.size + 1 + 1, 3, none⟩ (.int .i64 fw)).setCell ⟨w.heap.size + 1 + 1, 4, none⟩ (.int .i64 lg)).setCell ⟨w.heap.size + 1 + 1, 5, none⟩ (.slice za k zc)) (rb) 87 #[.pointer (some ⟨bt, 0, none⟩), .slice la v.m lc] ∧ Box ((((((w20.setCell ⟨w.heap.size + 1 + 1, 0, none⟩ (.bool true)).setCell ⟨w.heap.size + 1 + 1, 1, none⟩ (.int .i64 (fq : Int))).setCell ⟨w.heap.size + 1 + 1, 2, none⟩ (.int .i64 fa)).setCell ⟨w.heap.size + 1 + 1, 3, none⟩ (.int .i64 fw)).setCell ⟨w.heap.size + 1 + 1, 4, none⟩ (.int .i64 lg)).setCell ⟨w.heap.size + 1 + 1, 5, none⟩ (.slice za k zc)) (bq) 90 #[.int .i64 (fq : Int), .int .i64 fa, .int .i64 fw, .int .i64 lg, .slice oa k oc] ∧ VOwn n4 74 2 ((((((w20.setCell ⟨w.heap.size + 1 + 1, 0, none⟩ (.bool true)).setCell ⟨w.heap.size + 1 + 1, 1, none⟩ (.int .i64 (fq : Int))).setCell ⟨w.heap.size + 1 + 1, 2, none⟩ (.int .i64 fa)).setCell ⟨w.heap.size + 1 + 1, 3, none⟩ (.int .i64 fw)).setCell ⟨w.heap.size + 1 + 1, 4, none⟩ (.int .i64 lg)).setCell ⟨w.heap.size + 1 + 1, 5, none⟩ (.slice za k zc)) (.slice oa k oc) k (intF (plB v L fq fw)) ∧ VOwn w.heap.size 74 2 ((((((w20.setCell ⟨w.heap.size + 1 + 1, 0, none⟩ (.bool true)).setCell ⟨w.heap.size + 1 + 1, 1, none⟩ (.int .i64 (fq : Int))).setCell ⟨w.heap.size + 1 + 1, 2, none⟩ (.int .i64 fa)).setCell ⟨w.heap.size + 1 + 1, 3, none⟩ (.int .i64 fw)).setCell ⟨w.heap.size + 1 + 1, 4, none⟩ (.int .i64 lg)).setCell ⟨w.heap.size + 1 + 1, 5, none⟩ (.slice za k zc)) (.slice za k zc) k (intF (plB v L fq fw))) := ⟨((((((MA75.out.1.setCell (Nat.le_add_right _ 2) _).setCell (Nat.le_add_right _ 2) _).setCell (Nat.le_add_right _ 2) _).setCell (Nat.le_add_right _ 2) _).setCell (Nat.le_add_right _ 2) _).setCell (Nat.le_add_right _ 2) _), ((((((MA75.out.2.1.other (box_ne MA75.out.2.1 MA75.out.2.2.2.1 (by decide)) _).other (box_ne MA75.out.2.1 MA75.out.2.2.2.1 (by decide)) _).other (box_ne MA75.out.2.1 MA75.out.2.2.2.1 (by decide)) _).other (box_ne MA75.out.2.1 MA75.out.2.2.2.1 (by decide)) _).other (box_ne MA75.out.2.1 MA75.out.2.2.2.1 (by decide)) _).other (box_ne MA75.out.2.1 MA75.out.2.2.2.1 (by decide)) _), ((((((MA75.out.2.2.1.other (box_ne MA75.out.2.2.1 MA75.out.2.2.2.1 (by decide)) _).other (box_ne MA75.out.2.2.1 MA75.out.2.2.2.1 (by decide)) _).other (box_ne MA75.out.2.2.1 MA75.out.2.2.2.1 (by decide)) _).other (box_ne MA75.out.2.2.1 MA75.out.2.2.2.1 (by decide)) _).other (box_ne MA75.out.2.2.1 MA75.out.2.2.2.1 (by decide)) _).other (box_ne MA75.out.2.2.1 MA75.out.2.2.2.1 (by decide)) _), by have h9 := ((((((MA75.out.2.2.2.1.set 0 (.bool true)).set 1 (.int .i64 (fq : Int))).set 2 (.int .i64 fa)).set 3 (.int .i64 fw)).set 4 (.int .i64 lg)).set 5 (.slice za k zc)); exact h9, ((((((MA75.out.2.2.2.2.2.1.other (box_ne MA75.out.2.2.2.2.2.1 MA75.out.2.2.2.1 (by decide)) _).other (box_ne MA75.out.2.2.2.2.2.1 MA75.out.2.2.2.1 (by decide)) _).other (box_ne MA75.out.2.2.2.2.2.1 MA75.out.2.2.2.1 (by decide)) _).other (box_ne MA75.out.2.2.2.2.2.1 MA75.out.2.2.2.1 (by decide)) _).other (box_ne MA75.out.2.2.2.2.2.1 MA75.out.2.2.2.1 (by decide)) _).other (box_ne MA75.out.2.2.2.2.2.1 MA75.out.2.2.2.1 (by decide)) _), ((((((MA75.out.2.2.2.2.2.2.1.other (box_ne MA75.out.2.2.2.2.2.2.1 MA75.out.2.2.2.1 (by decide)) _).other (box_ne MA75.out.2.2.2.2.2.2.1 MA75.out.2.2.2.1 (by decide)) _).other (box_ne MA75.out.2.2.2.2.2.2.1 MA75.out.2.2.2.1 (by decide)) _).other (box_ne MA75.out.2.2.2.2.2.2.1 MA75.out.2.2.2.1 (by decide)) _).other (box_ne MA75.out.2.2.2.2.2.2.1 MA75.out.2.2.2.1 (by decide)) _).other (box_ne MA75.out.2.2.2.2.2.2.1 MA75.out.2.2.2.1 (by decide)) _), ((((((MA75.out.2.2.2.2.2.2.2.1.set MA75.out.2.2.2.1 (by decide) 0 _).set (MA75.out.2.2.2.1.set 0 (.bool true)) (by decide) 1 _).set ((MA75.out.2.2.2.1.set 0 (.bool true)).set 1 (.int .i64 (fq : Int))) (by decide) 2 _).set (((MA75.out.2.2.2.1.set 0 (.bool true)).set 1 (.int .i64 (fq : Int))).set 2 (.int .i64 fa)) (by decide) 3 _).set ((((MA75.out.2.2.2.1.set 0 (.bool true)).set 1 (.int .i64 (fq : Int))).set 2 (.int .i64 fa)).set 3 (.int .i64 fw)) (by decide) 4 _).set (((((MA75.out.2.2.2.1.set 0 (.bool true)).set 1 (.int .i64 (fq : Int))).set 2 (.int .i64 fa)).set 3 (.int .i64 fw)).set 4 (.int .i64 lg)) (by decide) 5 _), ((((((MA75.out.2.2.2.2.2.2.2.2.set MA75.out.2.2.2.1 (by decide) 0 _).set (MA75.out.2.2.2.1.set 0 (.bool true)) (by decide) 1 _).set ((MA75.out.2.2.2.1.set 0 (.bool true)).set 1 (.int .i64 (fq : Int))) (by decide) 2 _).set (((MA75.out.2.2.2.1.set 0 (.bool true)).set 1 (.int .i64 (fq : Int))).set 2 (.int .i64 fa)) (by decide) 3 _).set ((((MA75.out.2.2.2.1.set 0 (.bool true)).set 1 (.int .i64 (fq : Int))).set 2 (.int .i64 fa)).set 3 (.int .i64 fw)) (by decide) 4 _).set (((((MA75.out.2.2.2.1.set 0 (.bool true)).set 1 (.int .i64 (fq : Int))).set 2 (.int .i64 fa)).set 3 (.int .i64 fw)).set 4 (.int .i64 lg)) (by decide) 5 _)⟩
      clear MA75
      go_wp2_with fail
      clear z0 z1 z2 z3 z4 z5 zf0 zf1 zf2 zf3 zf4 zf5
      generalize ((((((w20.setCell ⟨w.heap.size + 1 + 1, 0, none⟩ (.bool true)).setCell ⟨w.heap.size + 1 + 1, 1, none⟩ (.int .i64 (fq : Int))).setCell ⟨w.heap.size + 1 + 1, 2, none⟩ (.int .i64 fa)).setCell ⟨w.heap.size + 1 + 1, 3, none⟩ (.int .i64 fw)).setCell ⟨w.heap.size + 1 + 1, 4, none⟩ (.int .i64 lg)).setCell ⟨w.heap.size + 1 + 1, 5, none⟩ (.slice za k zc)) = W9 at MA76 ⊢
      have z0 : W9.cell? ⟨w.heap.size + 1 + 1, 0, none⟩ = some (.bool true) := MA76.out.2.2.2.1.cell 0
      have z1 : W9.cell? ⟨w.heap.size + 1 + 1, 1, none⟩ = some (.int .i64 (fq : Int)) := MA76.out.2.2.2.1.cell 1
      have z2 : W9.cell? ⟨w.heap.size + 1 + 1, 2, none⟩ = some (.int .i64 fa) := MA76.out.2.2.2.1.cell 2
      have z3 : W9.cell? ⟨w.heap.size + 1 + 1, 3, none⟩ = some (.int .i64 fw) := MA76.out.2.2.2.1.cell 3
      have z4 : W9.cell? ⟨w.heap.size + 1 + 1, 4, none⟩ = some (.int .i64 lg) := MA76.out.2.2.2.1.cell 4
      have z5 : W9.cell? ⟨w.heap.size + 1 + 1, 5, none⟩ = some (.slice za k zc) := MA76.out.2.2.2.1.cell 5
      exact bodyPost_ret (v := .agg #[.bool true, .int .i64 (fq : Int), .int .i64 fa, .int .i64 fw, .int .i64 lg, .slice za k zc]) (by simp [results, Tryz.results11, go_sem, z0, z1, z2, z3, z4, z5]) rfl (pl_yes HSM.out rfl MA76.out.2.2.2.2.2.2.2 MA76.out.1)

end Go.Proofs.YtjhmaofjmalglaaGreat
