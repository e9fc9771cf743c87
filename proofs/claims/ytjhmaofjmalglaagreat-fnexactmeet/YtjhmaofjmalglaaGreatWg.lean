import Derived.Test.YtjhmaofjmalglaaGreatWd
namespace Go.Proofs.YtjhmaofjmalglaaGreat
open Go.RowKit Go.Lib

theorem turned101 (p wy : Int) (w : World) (hw : wy = 1 ∨ wy = -1) :
    Calls Tryz.prog 92 #[.agg #[.int .i64 p, .int .i64 wy]] w fun e w' => e = .returned (.agg #[.int .i64 p, .int .i64 (-wy)]) ∧ Below w.heap.size w w' := by
  have hwr : IntKind.i64.wrap (-wy) = -wy := by rw [IntKind.wrap_i64]; omega
  go_enter Tryz.func92, Tryz.ntmps92
  go_wp2
  exact bodyPost_ret (v := .agg #[.int .i64 p, .int .i64 (-wy)]) (by simp [results, Tryz.results92, go_sem]) rfl ⟨rfl, bel2 _ _ _⟩
/-- the same stretches, counted as those do who look to the other side -/
def tgF (v : Nv) (G : Nat → Nat → Int) (i c : Nat) : Int := if c = 0 then G i 0 else if c = 1 then -(G i 1) else if c = 2 then (v.P (G i 0).toNat).ln - G i 3 else (v.P (G i 0).toNat).ln - G i 2
theorem app4b {w W w6 : World} {vo v2 : Value} {n : Nat} {G : Nat → Nat → Value} {o : Obj} (hb : Below w.heap.size w W) (ho : VOwn w.heap.size 197 4 W vo n G) (h2 : VOwn w.heap.size 197 4 w6 v2 (n + 1) G) (hg : (W.alloc o).grownBy w6 vo.ownBlock) : Below w.heap.size w w6 ∧ VOwn w.heap.size 197 4 w6 v2 (n + 1) G :=
  ⟨(hb.alloc hb.size o).grown hg (hb.alloc hb.size o).size (fun _ hj => (ho.lt hj).1), h2⟩
/-- a row of stretches that are right -/
def SgOk (v : Nv) (n : Nat) (G : Nat → Nat → Int) : Prop := ∀ i, i < n → ∃ q : Nat, G i 0 = (q : Int) ∧ q < v.n ∧ (G i 1 = 1 ∨ G i 1 = -1) ∧ (0 ≤ G i 2 ∧ G i 2 ≤ 10000000) ∧ (0 ≤ G i 3 ∧ G i 3 ≤ 10000000)
theorem spot76 {v : Nv} (ok : v.Ok) {bt sb : Nat} {pa : Option Addr} {pc : Nat} {ja : Option Addr} {jc : Nat} (sp : Nat) (wy far : Int) (w : World) (h : TkAt w bt sb v pa pc ja jc) (hspn : sp < v.n) (hfar : 0 ≤ far ∧ far ≤ 10000000) :
    Calls Tryz.prog 136 #[.pointer (some ⟨bt, 0, none⟩), .agg #[.int .i64 (sp : Int), .int .i64 wy], .int .i64 far] w fun e w' => e = .returned (.agg #[.int .i64 (sp : Int), .int .i64 (farI (v.P sp).ln far wy), .int .i64 wy]) ∧ Below w.heap.size w w' := by
  have H : Hid (v.Ok ∧ TkAt w bt sb v pa pc ja jc) := ⟨ok, h⟩
  obtain ⟨at1, HA1⟩ : ∃ q, Hid (farI (v.P sp).ln far wy = q) := ⟨_, rfl⟩
  rw [HA1.out]
  have S0 : Hid (Below w.heap.size w ((w.alloc (.cells #[.int .i64 (sp : Int), .int .i64 wy] 74)).alloc (.cells #[.int .i64 0, .int .i64 0, .int .i64 0] 30)) ∧ Box ((w.alloc (.cells #[.int .i64 (sp : Int), .int .i64 wy] 74)).alloc (.cells #[.int .i64 0, .int .i64 0, .int .i64 0] 30)) (w.heap.size) 74 #[.int .i64 (sp : Int), .int .i64 wy] ∧ Box ((w.alloc (.cells #[.int .i64 (sp : Int), .int .i64 wy] 74)).alloc (.cells #[.int .i64 0, .int .i64 0, .int .i64 0] 30)) (w.heap.size + 1) 30 #[.int .i64 0, .int .i64 0, .int .i64 0]) := ⟨bel2 _ _ _, (Box.new _ _ _).alloc _, by have := Box.new (w.alloc (.cells #[.int .i64 (sp : Int), .int .i64 wy] 74)) 30 #[.int .i64 0, .int .i64 0, .int .i64 0]; simpa using this⟩
  clear ok h
  go_enter Tryz.func136, Tryz.ntmps136
  go_upto_region 1 with fail
  generalize ((w.alloc (.cells #[.int .i64 (sp : Int), .int .i64 wy] 74)).alloc (.cells #[.int .i64 0, .int .i64 0, .int .i64 0] 30)) = V0 at S0 ⊢
  have MD : Hid (Below w.heap.size w V0.drew ∧ Box V0.drew (w.heap.size) 74 #[.int .i64 (sp : Int), .int .i64 wy] ∧ Box V0.drew (w.heap.size + 1) 30 #[.int .i64 0, .int .i64 0, .int .i64 0]) := ⟨S0.out.1.drew, S0.out.2.1.drew, S0.out.2.2.drew⟩
  have a0 : V0.cell? ⟨w.heap.size, 0, none⟩ = some (.int .i64 (sp : Int)) := S0.out.2.1.cell 0
  have a1 : V0.cell? ⟨w.heap.size, 1, none⟩ = some (.int .i64 wy) := S0.out.2.1.cell 1
  have b0 : V0.cell? ⟨w.heap.size + 1, 0, none⟩ = some (.int .i64 0) := S0.out.2.2.cell 0
  have b1 : V0.cell? ⟨w.heap.size + 1, 1, none⟩ = some (.int .i64 0) := S0.out.2.2.cell 1
  have b2 : V0.cell? ⟨w.heap.size + 1, 2, none⟩ = some (.int .i64 0) := S0.out.2.2.cell 2
  go_wp2_with fail
  refine wp_region_held_drew (S := (fun wx : World => wx.cell? ⟨w.heap.size, 0, none⟩ = some (.int .i64 (sp : Int)) ∧ wx.cell? ⟨w.heap.size, 1, none⟩ = some (.int .i64 wy))) (by kernel_rfl) ?_ (fun hHeld => ?_)
  · exact ⟨a0, a1⟩
  refine tk 0 ?_
  refine tk 1 ?_
  refine tk 2 ?_
  refine tk 3 ?_
  refine tk 4 ?_
  refine tk 6 ?_
  refine tk 7 ?_
  refine rl 5 fun K hK => ?_
  go_simp
  refine (along98 H.out.1 sp wy far _ (H.out.2.mono MD.out.1 (Nat.le_refl _)) hspn hfar).mono ?_
  rintro e w1 ⟨he, hb⟩
  rw [HA1.out] at he
  subst he
  have M1 : Hid (Below w.heap.size w w1 ∧ Box w1 (w.heap.size) 74 #[.int .i64 (sp : Int), .int .i64 wy] ∧ Box w1 (w.heap.size + 1) 30 #[.int .i64 0, .int .i64 0, .int .i64 0]) := ⟨MD.out.1.trans (hb.mono MD.out.1.size), MD.out.2.1.mono hb (Nat.le_refl _), MD.out.2.2.mono hb (Nat.le_refl _)⟩
  clear hb
  go_wp2_with fail
  refine hK.out _ _ ?_ (fun hHeld5 => ?_)
  · exact ⟨M1.out.2.1.cell 0, M1.out.2.1.cell 1⟩
  clear hK K
  refine tk 8 ?_
  refine rl 9 fun K hK => ?_
  have z0 : w1.cell? ⟨w.heap.size + 1, 0, none⟩ = some (.int .i64 0) := M1.out.2.2.cell 0
  have z1 : w1.cell? ⟨w.heap.size + 1, 1, none⟩ = some (.int .i64 0) := M1.out.2.2.cell 1
  have z2 : w1.cell? ⟨w.heap.size + 1, 2, none⟩ = some (.int .i64 0) := M1.out.2.2.cell 2
  have q0 := M1.out.2.2.free 0
  have q1 := M1.out.2.2.free 1
  have q2 := M1.out.2.2.free 2
  have e1 : w.heap.size ≠ w.heap.size + 1 := by omega
  have M4 : Hid (Below w.heap.size w (((w1.setCell ⟨w.heap.size + 1, 0, none⟩ (.int .i64 (sp : Int))).setCell ⟨w.heap.size + 1, 1, none⟩ (.int .i64 at1)).setCell ⟨w.heap.size + 1, 2, none⟩ (.int .i64 wy)) ∧ Box (((w1.setCell ⟨w.heap.size + 1, 0, none⟩ (.int .i64 (sp : Int))).setCell ⟨w.heap.size + 1, 1, none⟩ (.int .i64 at1)).setCell ⟨w.heap.size + 1, 2, none⟩ (.int .i64 wy)) (w.heap.size) 74 #[.int .i64 (sp : Int), .int .i64 wy] ∧ Box (((w1.setCell ⟨w.heap.size + 1, 0, none⟩ (.int .i64 (sp : Int))).setCell ⟨w.heap.size + 1, 1, none⟩ (.int .i64 at1)).setCell ⟨w.heap.size + 1, 2, none⟩ (.int .i64 wy)) (w.heap.size + 1) 30 #[.int .i64 (sp : Int), .int .i64 at1, .int .i64 wy]) := ⟨((M1.out.1.setCell (Nat.le_add_right _ 1) _).setCell (Nat.le_add_right _ 1) _).setCell (Nat.le_add_right _ 1) _, ((M1.out.2.1.other e1 _).other e1 _).other e1 _, by
    have h9 := ((M1.out.2.2.set 0 (.int .i64 (sp : Int))).set 1 (.int .i64 at1)).set 2 (.int .i64 wy)
    exact h9⟩
  go_simp
  refine hK.out _ _ ?_ (fun hHeld9 => ?_)
  · exact ⟨M4.out.2.1.cell 0, M4.out.2.1.cell 1⟩
  clear hK K
  refine wpAnyH_done (by kernel_rfl) ?_ _
  clear a0 a1 b0 b1 b2 z0 z1 z2 q0 q1 q2 S0 MD M1
  generalize (((w1.setCell ⟨w.heap.size + 1, 0, none⟩ (.int .i64 (sp : Int))).setCell ⟨w.heap.size + 1, 1, none⟩ (.int .i64 at1)).setCell ⟨w.heap.size + 1, 2, none⟩ (.int .i64 wy)) = W9 at M4 ⊢
  have z0 : W9.cell? ⟨w.heap.size + 1, 0, none⟩ = some (.int .i64 (sp : Int)) := M4.out.2.2.cell 0
  have z1 : W9.cell? ⟨w.heap.size + 1, 1, none⟩ = some (.int .i64 at1) := M4.out.2.2.cell 1
  have z2 : W9.cell? ⟨w.heap.size + 1, 2, none⟩ = some (.int .i64 wy) := M4.out.2.2.cell 2
  go_wp2_with fail
  exact bodyPost_ret (v := .agg #[.int .i64 (sp : Int), .int .i64 at1, .int .i64 wy]) (by simp [results, Tryz.results136, go_sem, z0, z1, z2]) rfl ⟨rfl, M4.out.1⟩
def rtF (v : Nv) (fp fa fw lg : Int) (nb : Nat) (B : Nat → Nat → Int) (i c : Nat) : Int := tgF v (stG v fp fa fw lg nb B) ((nb + 1 - noF v fp fa fw B) - 1 - i) c
def bkF (fp fw : Int) (nb : Nat) (B : Nat → Nat → Int) (i c : Nat) : Int := if c = 0 then ahP fp B (nb - 1 - i) else -(ahW fw B (nb - 1 - i))
def tlA (v : Nv) (fp fa fw lg : Int) (nb : Nat) (B : Nat → Nat → Int) : Int := farI (v.P (ahP fp B nb).toNat).ln (hvF v fp fa fw B nb - lg) (ahW fw B nb)
theorem no_le (v : Nv) (fp fa fw : Int) (B : Nat → Nat → Int) : noF v fp fa fw B ≤ 1 := by
  unfold noF
  split <;> omega
theorem Trn.no {v : Nv} {fp fa fw lg : Int} {nb : Nat} {B : Nat → Nat → Int} (h : Trn v fp fa fw lg nb B) : noF v fp fa fw B ≤ nb := by
  unfold noF
  by_cases c : hvF v fp fa fw B 0 = 0
  · rw [if_pos c]
    have h1 := h.le
    have h2 := h.lg0
    by_cases d : nb = 0
    · rw [d, c] at h1
      omega
    · omega
  · rw [if_neg c]
    omega
theorem Trn.fr {v : Nv} {fp fa fw lg : Int} {nb : Nat} {B : Nat → Nat → Int} (ok : v.Ok) (h : Trn v fp fa fw lg nb B) {k : Nat} (hk : k ≤ nb) : 0 ≤ frF v fp fa fw lg nb B k ∧ frF v fp fa fw lg nb B k ≤ heF v fp fa fw B k := by
  obtain ⟨x0, _, y0, _, h1, h2⟩ := h.far ok hk rfl rfl
  by_cases c : lfF v fp fa fw lg nb B k < heF v fp fa fw B k
  · have := (h1 c).1
    omega
  · have := (h2 c).1
    omega
theorem Trn.hl {v : Nv} {fp fa fw lg : Int} {nb : Nat} {B : Nat → Nat → Int} (h : Trn v fp fa fw lg nb B) : ∀ k, k ≤ nb → heF v fp fa fw B k ≤ (v.P (ahP fp B k).toNat).ln
  | 0, _ => by
    obtain ⟨q, h1, h2, h3, h4, h5⟩ := spot_nat h.spot
    show farI (v.P fp.toNat).ln fa fw ≤ (v.P fp.toNat).ln
    rw [h1, Int.toNat_natCast, farI]
    split <;> omega
  | k + 1, _ => Int.le_refl _
theorem Trn.sg {v : Nv} {fp fa fw lg : Int} {nb : Nat} {B : Nat → Nat → Int} (ok : v.Ok) (h : Trn v fp fa fw lg nb B) : SgOk v (nb + 1 - noF v fp fa fw B) (stG v fp fa fw lg nb B) := fun i hi => by
  have hj : i + noF v fp fa fw B ≤ nb := by have := h.no; omega
  obtain ⟨q, h1, h2, h3⟩ := h.sp _ hj
  have h4 := h.fr ok hj
  have h5 := h.he ok hj
  exact ⟨q, h1, h2, h3, ⟨h4.1, Int.le_trans h4.2 h5.2.1⟩, ⟨h5.1, h5.2.1⟩⟩
theorem rt_first {v : Nv} {fp fa fw lg : Int} {nb : Nat} {B : Nat → Nat → Int} (h : Trn v fp fa fw lg nb B) : rtF v fp fa fw lg nb B 0 0 = ahP fp B nb ∧ rtF v fp fa fw lg nb B 0 1 = -(ahW fw B nb) ∧ rtF v fp fa fw lg nb B 0 3 = (v.P (ahP fp B nb).toNat).ln - (hvF v fp fa fw B nb - lg) := by
  have e : (nb + 1 - noF v fp fa fw B) - 1 - 0 + noF v fp fa fw B = nb := by have := h.no; omega
  have e3 : frF v fp fa fw lg nb B nb = hvF v fp fa fw B nb - lg := if_pos rfl
  refine ⟨?_, ?_, ?_⟩
  · show ahP fp B ((nb + 1 - noF v fp fa fw B) - 1 - 0 + noF v fp fa fw B) = _
    rw [e]
  · show -(ahW fw B ((nb + 1 - noF v fp fa fw B) - 1 - 0 + noF v fp fa fw B)) = _
    rw [e]
  · show (v.P (ahP fp B ((nb + 1 - noF v fp fa fw B) - 1 - 0 + noF v fp fa fw B)).toNat).ln - frF v fp fa fw lg nb B ((nb + 1 - noF v fp fa fw B) - 1 - 0 + noF v fp fa fw B) = _
    rw [e, e3]
theorem rt_back {v : Nv} {fp fa fw lg : Int} {nb : Nat} {B : Nat → Nat → Int} (h : Trn v fp fa fw lg nb B) {i : Nat} (hi : i < (nb + 1 - noF v fp fa fw B) - 1) : rtF v fp fa fw lg nb B (i + 1) 0 = bkF fp fw nb B i 0 ∧ rtF v fp fa fw lg nb B (i + 1) 1 = bkF fp fw nb B i 1 := by
  have e : (nb + 1 - noF v fp fa fw B) - 1 - (i + 1) + noF v fp fa fw B = nb - 1 - i := by have := h.no; omega
  constructor
  · show ahP fp B ((nb + 1 - noF v fp fa fw B) - 1 - (i + 1) + noF v fp fa fw B) = ahP fp B (nb - 1 - i)
    rw [e]
  · show -(ahW fw B ((nb + 1 - noF v fp fa fw B) - 1 - (i + 1) + noF v fp fa fw B)) = -(ahW fw B (nb - 1 - i))
    rw [e]
theorem app2 {w W w6 : World} {vl vo v2 : Value} {nl n : Nat} {F G : Nat → Nat → Value} {o : Obj} (hb : Below w.heap.size w W) (hl : VOwn w.heap.size 197 4 W vl nl F) (ho : VOwn w.heap.size 74 2 W vo n G) (h2 : VOwn w.heap.size 74 2 w6 v2 (n + 1) G) (hg : (W.alloc o).grownBy w6 vo.ownBlock) :
    Below w.heap.size w w6 ∧ VOwn w.heap.size 197 4 w6 vl nl F ∧ VOwn w.heap.size 74 2 w6 v2 (n + 1) G ∧ ∀ b T xs, T ≠ 74 → Box W b T xs → Box w6 b T xs :=
  ⟨(hb.alloc hb.size o).grown hg (hb.alloc hb.size o).size (fun _ hj => (ho.lt hj).1), (hl.alloc o).grown' hg (fun _ hh => (hl.alloc o).apart (ho.alloc o) (by decide) hh), h2, fun _ _ _ hT hx => (hx.alloc o).grown hg (fun e => (ho.alloc o).off (hx.alloc o) hT e rfl)⟩

end Go.Proofs.YtjhmaofjmalglaaGreat
