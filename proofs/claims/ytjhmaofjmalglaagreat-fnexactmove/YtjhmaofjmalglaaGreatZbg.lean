import Derived.Test.YtjhmaofjmalglaaGreatZbf
import Derived.Test.YtjhmaofjmalglaaGreatZax
import Derived.Test.YtjhmaofjmalglaaGreatZaz
namespace Go.Proofs.YtjhmaofjmalglaaGreat
open Go.RowKit Go.Lib
def heF (v : Nv) (fp fa fw : Int) (B : Nat → Nat → Int) : Nat → Int
 | 0 => hvF v fp fa fw B 0
 | j + 1 => (v.P (B j 0).toNat).ln
def frF (v : Nv) (fp fa fw lg : Int) (nb : Nat) (B : Nat → Nat → Int) (j : Nat) : Int := if j = nb then hvF v fp fa fw B nb - lg else 0
def lfF (v : Nv) (fp fa fw lg : Int) (nb : Nat) (B : Nat → Nat → Int) (k : Nat) : Int := if k = 0 then lg else if k ≤ nb then lg - hvF v fp fa fw B (k - 1) else 0
def noF (v : Nv) (fp fa fw : Int) (B : Nat → Nat → Int) : Nat := if hvF v fp fa fw B 0 = 0 then 1 else 0
structure Trn (v : Nv) (fp fa fw lg : Int) (nb : Nat) (B : Nat → Nat → Int) : Prop where
 spot : spotB v fp fa fw = true
 lg0 : 1 ≤ lg
 lg1 : lg ≤ 100000
 nb1 : nb ≤ 200
 step : ∀ i, i < nb → stepB v (B i 0) (B i 1) = true
 lt : ∀ i, i < nb → hvF v fp fa fw B i < lg
 le : lg ≤ hvF v fp fa fw B nb
theorem trn_of {v : Nv} {fp fa fw lg : Int} {nb : Nat} {B : Nat → Nat → Int} (h : trnB v fp fa fw lg nb B = true) : Trn v fp fa fw lg nb B := by
 rw [trnB, Bool.and_eq_true, Bool.and_eq_true, Bool.and_eq_true, Bool.and_eq_true, decide_eq_true_eq, decide_eq_true_eq] at h
 obtain ⟨⟨⟨h2, h5⟩, h3⟩, h4, h6⟩ := h
 simp only [inB, Bool.and_eq_true, decide_eq_true_eq] at h5
 refine ⟨h2, h5.1, h5.2, h3, fun i hi => ?_, fun i hi => ?_, h6⟩
 ·
  have := allT_at h4 i hi
  rw [bkB, Bool.and_eq_true] at this
  exact this.1
 ·
  have := allT_at h4 i hi
  rw [bkB, Bool.and_eq_true, Bool.and_eq_true, decide_eq_true_eq] at this
  exact this.2.1
theorem Trn.sp {v : Nv} {fp fa fw lg : Int} {nb : Nat} {B : Nat → Nat → Int} (h : Trn v fp fa fw lg nb B) : ∀ k, k ≤ nb → ∃ q : Nat, ahP fp B k = (q : Int) ∧ q < v.n ∧ (ahW fw B k = 1 ∨ ahW fw B k = -1)
 | 0, _ => by
  obtain ⟨q, h1, h2, h3, _⟩ := spot_nat h.spot
  exact ⟨q, h1, h2, h3⟩
 | k + 1, hk => step_nat (h.step k (by omega))
theorem Trn.hv0 {v : Nv} {fp fa fw lg : Int} {nb : Nat} {B : Nat → Nat → Int} (ok : v.Ok) (h : Trn v fp fa fw lg nb B) : 0 ≤ hvF v fp fa fw B 0 ∧ hvF v fp fa fw B 0 ≤ 10000000 := by
 have := hv_bnd ok (B := B) h.spot 0 (fun i hi => absurd hi (Nat.not_lt_zero _))
 omega
theorem Trn.he {v : Nv} {fp fa fw lg : Int} {nb : Nat} {B : Nat → Nat → Int} (ok : v.Ok) (h : Trn v fp fa fw lg nb B) {k : Nat} (hk : k ≤ nb) : 0 ≤ heF v fp fa fw B k ∧ heF v fp fa fw B k ≤ 10000000 ∧ (1 ≤ k → 1 ≤ heF v fp fa fw B k) ∧ (1 ≤ k → hvF v fp fa fw B k = hvF v fp fa fw B (k - 1) + heF v fp fa fw B k) := by
 cases k with
 | zero =>
  have := h.hv0 ok
  exact ⟨this.1, this.2, fun h => absurd h (by omega), fun h => absurd h (by omega)⟩
 | succ j =>
  obtain ⟨q, h1, h2, _⟩ := step_nat (h.step j (by omega))
  have := ok.ln q h2
  have e : heF v fp fa fw B (j + 1) = (v.P q).ln := by rw [heF, h1, Int.toNat_natCast]
  rw [e]
  refine ⟨by omega, this.2, fun _ => this.1, fun _ => ?_⟩
  rw [hvF, h1, Int.toNat_natCast]
  rfl
theorem Trn.far {v : Nv} {fp fa fw lg : Int} {nb : Nat} {B : Nat → Nat → Int} (ok : v.Ok) (h : Trn v fp fa fw lg nb B) {k : Nat} (hk : k ≤ nb) {x y : Int} (hx : x = lfF v fp fa fw lg nb B k) (hy : y = heF v fp fa fw B k) :
  0 < x ∧ x ≤ 100000 ∧ 0 ≤ y ∧ y ≤ 10000000 ∧ (x < y → frF v fp fa fw lg nb B k = y - x ∧ lfF v fp fa fw lg nb B (k + 1) = x - x ∧ (k = 0 → noF v fp fa fw B = 0)) ∧
  (¬ x < y → frF v fp fa fw lg nb B k = y - y ∧ lfF v fp fa fw lg nb B (k + 1) = x - y ∧ (0 < y → k = 0 → noF v fp fa fw B = 0) ∧ (¬ 0 < y → k = 0 ∧ noF v fp fa fw B = 1)) := by
 obtain ⟨e0, e1, e2, e3⟩ := h.he ok hk
 have h0 := h.lg0
 have h1 := h.lg1
 have hle := h.le
 have hv0 := h.hv0 ok
 rw [← hy] at e0 e1 e2 e3
 have hy0 : k = 0 → y = hvF v fp fa fw B 0 := fun c => by subst c; exact hy
 have hxp : 0 < x ∧ x ≤ 100000 ∧ (k = 0 → x = lg) ∧ (1 ≤ k → x = lg - hvF v fp fa fw B (k - 1)) := by
  unfold lfF at hx
  by_cases c : k = 0
  ·
   rw [if_pos c] at hx
   exact ⟨by omega, by omega, fun _ => hx, fun d => absurd d (by omega)⟩
  ·
   rw [if_neg c, if_pos hk] at hx
   have := h.lt (k - 1) (by omega)
   have h9 := (hv_bnd ok (B := B) h.spot (k - 1) (fun i hi => h.step i (by omega))).1
   exact ⟨by omega, by omega, fun d => absurd d c, fun _ => hx⟩
 obtain ⟨x0, x1, x2, x3⟩ := hxp
 have hn : lfF v fp fa fw lg nb B (k + 1) = if k < nb then lg - hvF v fp fa fw B k else 0 := by
  unfold lfF
  rw [if_neg (by omega), Nat.add_sub_cancel]
  by_cases c : k < nb
  ·
   rw [if_pos (by omega), if_pos c]
  ·
   rw [if_neg (by omega), if_neg c]
 have hno : noF v fp fa fw B = if hvF v fp fa fw B 0 = 0 then 1 else 0 := rfl
 by_cases c : k < nb
 ·
  have hlt := h.lt k c
  rw [if_pos c] at hn
  have hyx : y < x := by
   by_cases d : k = 0
   ·
    have := hy0 d
    have := x2 d
    subst d
    omega
   ·
    have := e3 (by omega)
    have := x3 (by omega)
    omega
  refine ⟨x0, x1, e0, e1, fun g => absurd g (by omega), fun _ => ⟨?_, ?_, ?_, ?_⟩⟩
  ·
   unfold frF
   rw [if_neg (by omega)]
   omega
  ·
   rw [hn]
   by_cases d : k = 0
   ·
    have := hy0 d
    have := x2 d
    subst d
    omega
   ·
    have := e3 (by omega)
    have := x3 (by omega)
    omega
  ·
   intro g d
   rw [hno, if_neg (by have := hy0 d; omega)]
  ·
   intro g
   have d : k = 0 := by
    by_cases d : k = 0
    ·
     exact d
    ·
     have := e2 (by omega)
     omega
   exact ⟨d, by rw [hno, if_pos (by have := hy0 d; omega)]⟩
 ·
  obtain rfl : k = nb := by omega
  rw [if_neg c] at hn
  have hxy : hvF v fp fa fw B k - lg = y - x := by
   by_cases d : k = 0
   ·
    have := hy0 d
    have := x2 d
    subst d
    omega
   ·
    have := e3 (by omega)
    have := x3 (by omega)
    omega
  have hfr : frF v fp fa fw lg k B k = y - x := by
   unfold frF
   rw [if_pos rfl]
   exact hxy
  refine ⟨x0, x1, e0, e1, fun g => ⟨hfr, by omega, fun d => by rw [hno, if_neg (by have := hy0 d; omega)]⟩, fun g => ⟨by omega, by omega, fun _ d => by rw [hno, if_neg (by have := hy0 d; omega)], fun g2 => absurd g2 (by omega)⟩⟩
end Go.Proofs.YtjhmaofjmalglaaGreat
namespace Go.Proofs.YtjhmaofjmalglaaGreat
open Go.RowKit Go.Lib
theorem spot76 {v : Nv} (ok : v.Ok) {bt sb : Nat} {pa : Option Addr} {pc : Nat} {ja : Option Addr} {jc : Nat} (sp : Nat) (wy far : Int) (w : World) (h : TkAt w bt sb v pa pc ja jc) (hspn : sp < v.n) (hfar : 0 ≤ far ∧ far ≤ 10000000) :
  Calls Tryz.prog 136 #[.pointer (some ⟨bt, 0, none⟩), .agg #[.int .i64 (sp : Int), .int .i64 wy], .int .i64 far] w fun e w' => e = .returned (.agg #[.int .i64 (sp : Int), .int .i64 (farI (v.P sp).ln far wy), .int .i64 wy]) ∧ Below w.heap.size w w' := by
 have H : Hid (v.Ok ∧ TkAt w bt sb v pa pc ja jc) := ⟨ok, h⟩
 obtain ⟨at1, HA1⟩ : ∃ q, Hid (farI (v.P sp).ln far wy = q) := ⟨_, rfl⟩
 rw [HA1.out]
 have S0 : Hid (Below w.heap.size w ((w.alloc (.cells #[.int .i64 (sp : Int), .int .i64 wy] 74)).alloc (.cells #[.int .i64 0, .int .i64 0, .int .i64 0] 30)) ∧ Box ((w.alloc (.cells #[.int .i64 (sp : Int), .int .i64 wy] 74)).alloc (.cells #[.int .i64 0, .int .i64 0, .int .i64 0] 30)) (w.heap.size) 74 #[.int .i64 (sp : Int), .int .i64 wy] ∧ Box ((w.alloc (.cells #[.int .i64 (sp : Int), .int .i64 wy] 74)).alloc (.cells #[.int .i64 0, .int .i64 0, .int .i64 0] 30)) (w.heap.size + 1) 30 #[.int .i64 0, .int .i64 0, .int .i64 0]) := ⟨bel2 _ _ _, (Box.new _ _ _).alloc _, by have := Box.new (w.alloc (.cells #[.int .i64 (sp : Int), .int .i64 wy] 74)) 30 #[.int .i64 0, .int .i64 0, .int .i64 0]; simpa using this⟩
 clear ok h
 go_enter Tryz.func136, Tryz.ntmps136
 go_upto_region 1 with fail
 generalize ((w.alloc (.cells #[.int .i64 (sp : Int), .int .i64 wy] 74)).alloc (.cells #[.int .i64 0, .int .i64 0, .int .i64 0] 30)) = V0 at S0 ⊢
 have MD : Hid (Below w.heap.size w V0.drew ∧ Box V0.drew (w.heap.size) 74 #[.int .i64 (sp : Int), .int .i64 wy] ∧ Box V0.drew (w.heap.size + 1) 30 #[.int .i64 0, .int .i64 0, .int .i64 0]) := ⟨S0.out.1.drew, S0.out.2.1.drew, S0.out.2.2.drew⟩
 have a0 := S0.out.2.1.cel 0
 have a1 := S0.out.2.1.cel 1
 have b0 := S0.out.2.2.cel 0
 have b1 := S0.out.2.2.cel 1
 have b2 := S0.out.2.2.cel 2
 go_wp2_with fail
 refine wp_region_held_drew (S := (fun wx : World => wx.cell? ⟨w.heap.size, 0, none⟩ = some (.int .i64 (sp : Int)) ∧ wx.cell? ⟨w.heap.size, 1, none⟩ = some (.int .i64 wy))) (by kernel_rfl) ?_ (fun hHeld => ?_)
 ·
  exact ⟨a0, a1⟩
 refine tk 0 ?_
 refine tk 1 ?_
 refine tk 2 ?_
 refine tk 3 ?_
 refine tk 4 ?_
 refine tk 6 ?_
 refine tk 7 ?_
 refine rl 5 fun K hK => ?_
 go_simp
 refine (along98 H.out.1 sp wy far _ (H.out.2.mono MD.out.1 nr) hspn hfar).mono ?_
 rintro e w1 ⟨he, hb⟩
 rw [HA1.out] at he
 subst he
 have M1 : Hid (Below w.heap.size w w1 ∧ Box w1 (w.heap.size) 74 #[.int .i64 (sp : Int), .int .i64 wy] ∧ Box w1 (w.heap.size + 1) 30 #[.int .i64 0, .int .i64 0, .int .i64 0]) := ⟨MD.out.1.trans (hb.mono MD.out.1.size), MD.out.2.1.mono hb nr, MD.out.2.2.mono hb nr⟩
 clear hb
 go_wp2_with fail
 refine hK.out _ _ ?_ (fun hHeld5 => ?_)
 ·
  exact ⟨M1.out.2.1.cell 0, M1.out.2.1.cell 1⟩
 clear hK K
 refine tk 8 ?_
 refine rl 9 fun K hK => ?_
 have z0 := M1.out.2.2.cel 0
 have z1 := M1.out.2.2.cel 1
 have z2 := M1.out.2.2.cel 2
 have q0 := M1.out.2.2.free 0
 have q1 := M1.out.2.2.free 1
 have q2 := M1.out.2.2.free 2
 have e1 : w.heap.size ≠ w.heap.size + 1 := by omega
 have M4 : Hid (Below w.heap.size w (((w1.setCell ⟨w.heap.size + 1, 0, none⟩ (.int .i64 (sp : Int))).setCell ⟨w.heap.size + 1, 1, none⟩ (.int .i64 at1)).setCell ⟨w.heap.size + 1, 2, none⟩ (.int .i64 wy)) ∧ Box (((w1.setCell ⟨w.heap.size + 1, 0, none⟩ (.int .i64 (sp : Int))).setCell ⟨w.heap.size + 1, 1, none⟩ (.int .i64 at1)).setCell ⟨w.heap.size + 1, 2, none⟩ (.int .i64 wy)) (w.heap.size) 74 #[.int .i64 (sp : Int), .int .i64 wy] ∧ Box (((w1.setCell ⟨w.heap.size + 1, 0, none⟩ (.int .i64 (sp : Int))).setCell ⟨w.heap.size + 1, 1, none⟩ (.int .i64 at1)).setCell ⟨w.heap.size + 1, 2, none⟩ (.int .i64 wy)) (w.heap.size + 1) 30 #[.int .i64 (sp : Int), .int .i64 at1, .int .i64 wy]) := ⟨((M1.out.1.setCell (Nat.le_add_right _ 1) _).setCell (Nat.le_add_right _ 1) _).setCell (Nat.le_add_right _ 1) _, ((M1.out.2.1.other e1 _).other e1 _).other e1 _, by
  have h9 := ((M1.out.2.2.set 0 (.int .i64 (sp : Int))).set 1 (.int .i64 at1)).set 2 (.int .i64 wy)
  exact h9⟩
 go_simp
 refine hK.out _ _ ?_ (fun hHeld9 => ?_)
 ·
  exact ⟨M4.out.2.1.cell 0, M4.out.2.1.cell 1⟩
 clear hK K
 refine wpAnyH_done (by kernel_rfl) ?_ _
 clear a0 a1 b0 b1 b2 z0 z1 z2 q0 q1 q2 S0 MD M1
 generalize (((w1.setCell ⟨w.heap.size + 1, 0, none⟩ (.int .i64 (sp : Int))).setCell ⟨w.heap.size + 1, 1, none⟩ (.int .i64 at1)).setCell ⟨w.heap.size + 1, 2, none⟩ (.int .i64 wy)) = W9 at M4 ⊢
 have z0 := M4.out.2.2.cel 0
 have z1 := M4.out.2.2.cel 1
 have z2 := M4.out.2.2.cel 2
 go_wp2_with fail
 exact bodyPost_ret (v := .agg #[.int .i64 (sp : Int), .int .i64 at1, .int .i64 wy]) (by simp [results, Tryz.results136, go_sem, z0, z1, z2]) rfl ⟨rfl, M4.out.1⟩
theorem Trn.no {v : Nv} {fp fa fw lg : Int} {nb : Nat} {B : Nat → Nat → Int} (h : Trn v fp fa fw lg nb B) : noF v fp fa fw B ≤ nb := by
 unfold noF
 by_cases c : hvF v fp fa fw B 0 = 0
 ·
  rw [if_pos c]
  have h1 := h.le
  have h2 := h.lg0
  by_cases d : nb = 0
  ·
   rw [d, c] at h1
   omega
  ·
   omega
 ·
  rw [if_neg c]
  omega
theorem Trn.fr {v : Nv} {fp fa fw lg : Int} {nb : Nat} {B : Nat → Nat → Int} (ok : v.Ok) (h : Trn v fp fa fw lg nb B) {k : Nat} (hk : k ≤ nb) : 0 ≤ frF v fp fa fw lg nb B k ∧ frF v fp fa fw lg nb B k ≤ heF v fp fa fw B k := by
 obtain ⟨x0, _, y0, _, h1, h2⟩ := h.far ok hk rfl rfl
 by_cases c : lfF v fp fa fw lg nb B k < heF v fp fa fw B k
 ·
  have := (h1 c).1
  omega
 ·
  have := (h2 c).1
  omega
theorem Trn.hl {v : Nv} {fp fa fw lg : Int} {nb : Nat} {B : Nat → Nat → Int} (h : Trn v fp fa fw lg nb B) : ∀ k, k ≤ nb → heF v fp fa fw B k ≤ (v.P (ahP fp B k).toNat).ln
 | 0, _ => by
  obtain ⟨q, h1, h2, h3, h4, h5⟩ := spot_nat h.spot
  show farI (v.P fp.toNat).ln fa fw ≤ (v.P fp.toNat).ln
  rw [h1, Int.toNat_natCast, farI]
  split <;> omega
 | k + 1, _ => Int.le_refl _
end Go.Proofs.YtjhmaofjmalglaaGreat
