import Derived.Test.YtoennemahlakeaaGreatXb
namespace Go.Proofs.YtoennemahlakeaaGreat
open Go.RowKit Go.Lib

/-- all that a body lies over, turned -/
def afF (fp fw : Int) (B : Nat → Nat → Int) (i c : Nat) : Int := if c = 0 then ahP fp B i else -(ahW fw B i)
theorem own_new1 {w W : World} {g : Nat} {x y : Value} {F : Nat → Nat → Value} (hb : Box W g 79 #[x, y]) (hg : w.heap.size ≤ g) (h0 : F 0 0 = x) (h1 : F 0 1 = y) : VOwn w.heap.size 79 2 W (.slice (some ⟨g, 0, none⟩) 1 1) 1 F :=
  .inr ⟨g, 1, _, rfl, hg, hb, Nat.le_refl _, by simp [maxLen], rfl, fun i hi j hj => by
    obtain rfl : i = 0 := by omega
    rcases (show j = 0 ∨ j = 1 by omega) with rfl | rfl
    · rw [h0]; rfl
    · rw [h1]; rfl⟩
theorem appz {w W w6 : World} {vo : Value} {n M : Nat} {G : Nat → Nat → Value} {o : Obj} (hM : w.heap.size ≤ M) (hb : Below w.heap.size w W) (ho : VOwn M 79 2 W vo n G) (hg : (W.alloc o).grownBy w6 vo.ownBlock) :
    Below w.heap.size w w6 ∧ ∀ b T xs, T ≠ 79 → Box W b T xs → Box w6 b T xs :=
  ⟨(hb.alloc hb.size o).grown hg (hb.alloc hb.size o).size (fun _ hj => Nat.le_trans hM (ho.lt hj).1), fun _ _ _ hT hx => (hx.alloc o).grown hg (fun e => (ho.alloc o).off (hx.alloc o) hT e rfl)⟩
theorem hb_first {v : Nv} {fp fa fw lg : Int} {nb : Nat} {B : Nat → Nat → Int} (ok : v.Ok) (h : Trn v fp fa fw lg nb B) (h1 : 1 ≤ nb) {sp : Nat} (hsp : ahP fp B nb = (sp : Int)) : farI (v.P sp).ln (tlA v fp fa fw lg nb B) (-(ahW fw B nb)) = lg - hvF v fp fa fw B (nb - 1) := by
  obtain ⟨_, _, _, hw⟩ := h.sp nb (Nat.le_refl _)
  have e := (h.he ok (Nat.le_refl nb)).2.2.2 h1
  have e2 : heF v fp fa fw B nb = (v.P sp).ln := by
    cases nb with
    | zero => omega
    | succ k => rw [heF, show (B k 0) = (sp : Int) from hsp, Int.toNat_natCast]
  rw [tlA, hsp, Int.toNat_natCast]
  rw [e2] at e
  rcases hw with c | c <;> rw [c] <;> unfold farI <;> simp <;> omega
set_option maxRecDepth 100000 in
set_option maxHeartbeats 32000000 in
theorem specTurned18 {v : Nv} (pa : Option Addr) (pc : Nat) (ja : Option Addr) (jc : Nat) (fp fa fw lg : Int) (nb : Nat) (B : Nat → Nat → Int) (ba : Option Addr) (bk : Nat) (w : World) (hn : v.n ≤ 1048576) (hm : v.m ≤ 1048576) (hnb : nb ≤ 1048576) (hP : PsAt 0 w pa v.n v.P) (hJ : JsAt 0 w ja v.m v.J) (hps : ∀ i, i < v.n → (v.P i).nm.size ≤ maxLen) (hjs : ∀ i, i < v.m → (v.J i).ne ≤ 1048576 ∧ (v.J i).nm.size ≤ maxLen) (hB : NsAt 2 0 w ba nb B) :
    Calls Tryz.prog 18 #[.agg #[.slice pa v.n pc, .slice ja v.m jc], .agg #[.int .i64 fp, .int .i64 fa, .int .i64 fw, .int .i64 lg, .slice ba nb bk]] w fun e w' => TdR w v fp fa fw lg nb B e w' := by
  have H : Hid (PsAt 0 w pa v.n v.P ∧ JsAt 0 w ja v.m v.J ∧ (∀ i, i < v.n → (v.P i).nm.size ≤ maxLen) ∧ (∀ i, i < v.m → (v.J i).ne ≤ 1048576 ∧ (v.J i).nm.size ≤ maxLen) ∧ NsAt 2 0 w ba nb B) := ⟨hP, hJ, hps, hjs, hB⟩
  obtain ⟨i0, hi0, hz0, hs0, hb0⟩ := info_parts infoStepZ
  have S0 : Hid (Below w.heap.size w (((w.alloc (.cells #[.slice pa v.n pc, .slice ja v.m jc] 38)).alloc (.cells #[.int .i64 fp, .int .i64 fa, .int .i64 fw, .int .i64 lg, .slice ba nb bk] 43)).alloc (.cells #[.int .i64 0, .int .i64 0, .int .i64 0, .int .i64 0, .slice none 0 0] 43)) ∧ Box (((w.alloc (.cells #[.slice pa v.n pc, .slice ja v.m jc] 38)).alloc (.cells #[.int .i64 fp, .int .i64 fa, .int .i64 fw, .int .i64 lg, .slice ba nb bk] 43)).alloc (.cells #[.int .i64 0, .int .i64 0, .int .i64 0, .int .i64 0, .slice none 0 0] 43)) (w.heap.size) 38 #[.slice pa v.n pc, .slice ja v.m jc] ∧ Box (((w.alloc (.cells #[.slice pa v.n pc, .slice ja v.m jc] 38)).alloc (.cells #[.int .i64 fp, .int .i64 fa, .int .i64 fw, .int .i64 lg, .slice ba nb bk] 43)).alloc (.cells #[.int .i64 0, .int .i64 0, .int .i64 0, .int .i64 0, .slice none 0 0] 43)) (w.heap.size + 1) 43 #[.int .i64 fp, .int .i64 fa, .int .i64 fw, .int .i64 lg, .slice ba nb bk] ∧ Box (((w.alloc (.cells #[.slice pa v.n pc, .slice ja v.m jc] 38)).alloc (.cells #[.int .i64 fp, .int .i64 fa, .int .i64 fw, .int .i64 lg, .slice ba nb bk] 43)).alloc (.cells #[.int .i64 0, .int .i64 0, .int .i64 0, .int .i64 0, .slice none 0 0] 43)) (w.heap.size + 1 + 1) 43 #[.int .i64 0, .int .i64 0, .int .i64 0, .int .i64 0, .slice none 0 0]) := ⟨((Below.refl _ _).alloc (Nat.le_refl _) _ |>.alloc (by simp) _ |>.alloc (by simp; omega) _), ((Box.new _ _ _).alloc _).alloc _, by have := (Box.new (w.alloc (.cells #[.slice pa v.n pc, .slice ja v.m jc] 38)) 43 #[.int .i64 fp, .int .i64 fa, .int .i64 fw, .int .i64 lg, .slice ba nb bk]).alloc (.cells #[.int .i64 0, .int .i64 0, .int .i64 0, .int .i64 0, .slice none 0 0] 43); simpa using this, by have := Box.new ((w.alloc (.cells #[.slice pa v.n pc, .slice ja v.m jc] 38)).alloc (.cells #[.int .i64 fp, .int .i64 fa, .int .i64 fw, .int .i64 lg, .slice ba nb bk] 43)) 43 #[.int .i64 0, .int .i64 0, .int .i64 0, .int .i64 0, .slice none 0 0]; simpa using this⟩
  clear hP hJ hps hjs hB
  obtain ⟨u, HU⟩ : ∃ u, Hid (trainF v fp fa fw lg nb B = u) := ⟨_, rfl⟩
  go_enter Tryz.func18, Tryz.ntmps18
  go_upto_region 1 with fail
  generalize (((w.alloc (.cells #[.slice pa v.n pc, .slice ja v.m jc] 38)).alloc (.cells #[.int .i64 fp, .int .i64 fa, .int .i64 fw, .int .i64 lg, .slice ba nb bk] 43)).alloc (.cells #[.int .i64 0, .int .i64 0, .int .i64 0, .int .i64 0, .slice none 0 0] 43)) = V0 at S0 ⊢
  have a0 : V0.cell? ⟨w.heap.size, 0, none⟩ = some (.slice pa v.n pc) := S0.out.2.1.cell 0
  have a1 : V0.cell? ⟨w.heap.size, 1, none⟩ = some (.slice ja v.m jc) := S0.out.2.1.cell 1
  have b0 : V0.cell? ⟨w.heap.size + 1, 0, none⟩ = some (.int .i64 fp) := S0.out.2.2.1.cell 0
  have b1 : V0.cell? ⟨w.heap.size + 1, 1, none⟩ = some (.int .i64 fa) := S0.out.2.2.1.cell 1
  have b2 : V0.cell? ⟨w.heap.size + 1, 2, none⟩ = some (.int .i64 fw) := S0.out.2.2.1.cell 2
  have b3 : V0.cell? ⟨w.heap.size + 1, 3, none⟩ = some (.int .i64 lg) := S0.out.2.2.1.cell 3
  have b4 : V0.cell? ⟨w.heap.size + 1, 4, none⟩ = some (.slice ba nb bk) := S0.out.2.2.1.cell 4
  have c0 : V0.cell? ⟨w.heap.size + 1 + 1, 0, none⟩ = some (.int .i64 0) := S0.out.2.2.2.cell 0
  have c1 : V0.cell? ⟨w.heap.size + 1 + 1, 1, none⟩ = some (.int .i64 0) := S0.out.2.2.2.cell 1
  have c2 : V0.cell? ⟨w.heap.size + 1 + 1, 2, none⟩ = some (.int .i64 0) := S0.out.2.2.2.cell 2
  have c3 : V0.cell? ⟨w.heap.size + 1 + 1, 3, none⟩ = some (.int .i64 0) := S0.out.2.2.2.cell 3
  have c4 : V0.cell? ⟨w.heap.size + 1 + 1, 4, none⟩ = some (.slice none 0 0) := S0.out.2.2.2.cell 4
  go_wp2_with fail
  clear a0 a1 b0 b1 b2 b3 b4 c0 c1 c2 c3 c4
  refine (specTrain15 pa pc ja jc fp fa fw lg nb B ba bk V0 hn hm hnb (H.out.1.mono (Nat.le_refl _) S0.out.1 (Nat.le_refl _)) (H.out.2.1.mono (Nat.le_refl _) S0.out.1 (Nat.le_refl _)) H.out.2.2.1 H.out.2.2.2.1 (H.out.2.2.2.2.mono (Nat.le_refl _) S0.out.1 (Nat.le_refl _))).mono ?_
  rintro e w1 ⟨he, hb1⟩
  rw [HU.out] at he
  subst he
  have M1 : Hid (Below w.heap.size w w1 ∧ Box w1 (w.heap.size) 38 #[.slice pa v.n pc, .slice ja v.m jc] ∧ Box w1 (w.heap.size + 1) 43 #[.int .i64 fp, .int .i64 fa, .int .i64 fw, .int .i64 lg, .slice ba nb bk] ∧ Box w1 (w.heap.size + 1 + 1) 43 #[.int .i64 0, .int .i64 0, .int .i64 0, .int .i64 0, .slice none 0 0]) := ⟨S0.out.1.trans (hb1.mono S0.out.1.size), S0.out.2.1.mono hb1 (Nat.le_refl _), S0.out.2.2.1.mono hb1 (Nat.le_refl _), S0.out.2.2.2.mono hb1 (Nat.le_refl _)⟩
  clear hb1 S0
  cases u with
  | false =>
    have z0 : w1.cell? ⟨w.heap.size + 1 + 1, 0, none⟩ = some (.int .i64 0) := M1.out.2.2.2.cell 0
    have z1 : w1.cell? ⟨w.heap.size + 1 + 1, 1, none⟩ = some (.int .i64 0) := M1.out.2.2.2.cell 1
    have z2 : w1.cell? ⟨w.heap.size + 1 + 1, 2, none⟩ = some (.int .i64 0) := M1.out.2.2.2.cell 2
    have z3 : w1.cell? ⟨w.heap.size + 1 + 1, 3, none⟩ = some (.int .i64 0) := M1.out.2.2.2.cell 3
    have z4 : w1.cell? ⟨w.heap.size + 1 + 1, 4, none⟩ = some (.slice none 0 0) := M1.out.2.2.2.cell 4
    have q0 := M1.out.2.2.2.free 0
    have q1 := M1.out.2.2.2.free 1
    have q2 := M1.out.2.2.2.free 2
    have q3 := M1.out.2.2.2.free 3
    have q4 := M1.out.2.2.2.free 4
    have MF : Hid (Below w.heap.size w (((((w1.setCell ⟨w.heap.size + 1 + 1, 0, none⟩ (.int .i64 0)).setCell ⟨w.heap.size + 1 + 1, 1, none⟩ (.int .i64 0)).setCell ⟨w.heap.size + 1 + 1, 2, none⟩ (.int .i64 0)).setCell ⟨w.heap.size + 1 + 1, 3, none⟩ (.int .i64 0)).setCell ⟨w.heap.size + 1 + 1, 4, none⟩ (.slice none 0 0)) ∧ Box (((((w1.setCell ⟨w.heap.size + 1 + 1, 0, none⟩ (.int .i64 0)).setCell ⟨w.heap.size + 1 + 1, 1, none⟩ (.int .i64 0)).setCell ⟨w.heap.size + 1 + 1, 2, none⟩ (.int .i64 0)).setCell ⟨w.heap.size + 1 + 1, 3, none⟩ (.int .i64 0)).setCell ⟨w.heap.size + 1 + 1, 4, none⟩ (.slice none 0 0)) (w.heap.size + 1 + 1) 43 #[.int .i64 0, .int .i64 0, .int .i64 0, .int .i64 0, .slice none 0 0]) := ⟨(((((M1.out.1.setCell (Nat.le_add_right _ 2) _).setCell (Nat.le_add_right _ 2) _).setCell (Nat.le_add_right _ 2) _).setCell (Nat.le_add_right _ 2) _).setCell (Nat.le_add_right _ 2) _), by
      have h9 := (((((M1.out.2.2.2.set 0 (.int .i64 0)).set 1 (.int .i64 0)).set 2 (.int .i64 0)).set 3 (.int .i64 0)).set 4 (.slice none 0 0))
      exact h9⟩
    clear M1
    go_wp2_with fail
    clear z0 z1 z2 z3 z4 q0 q1 q2 q3 q4
    generalize (((((w1.setCell ⟨w.heap.size + 1 + 1, 0, none⟩ (.int .i64 0)).setCell ⟨w.heap.size + 1 + 1, 1, none⟩ (.int .i64 0)).setCell ⟨w.heap.size + 1 + 1, 2, none⟩ (.int .i64 0)).setCell ⟨w.heap.size + 1 + 1, 3, none⟩ (.int .i64 0)).setCell ⟨w.heap.size + 1 + 1, 4, none⟩ (.slice none 0 0)) = W8 at MF ⊢
    have z0 : W8.cell? ⟨w.heap.size + 1 + 1, 0, none⟩ = some (.int .i64 0) := MF.out.2.cell 0
    have z1 : W8.cell? ⟨w.heap.size + 1 + 1, 1, none⟩ = some (.int .i64 0) := MF.out.2.cell 1
    have z2 : W8.cell? ⟨w.heap.size + 1 + 1, 2, none⟩ = some (.int .i64 0) := MF.out.2.cell 2
    have z3 : W8.cell? ⟨w.heap.size + 1 + 1, 3, none⟩ = some (.int .i64 0) := MF.out.2.cell 3
    have z4 : W8.cell? ⟨w.heap.size + 1 + 1, 4, none⟩ = some (.slice none 0 0) := MF.out.2.cell 4
    exact bodyPost_ret (v := .agg #[.int .i64 0, .int .i64 0, .int .i64 0, .int .i64 0, .slice none 0 0]) (by simp [results, Tryz.results18, go_sem, z0, z1, z2, z3, z4]) rfl (td_no HU.out rfl MF.out.1)
  | true =>
    have HK : Hid (v.Ok ∧ Trn v fp fa fw lg nb B) := tr_ok HU.out
    have hnb2 := HK.out.2.nb1
    have hno := HK.out.2.no
    have hn0 := HK.out.1.n0
    have hn1 := HK.out.1.n1
    have hlg0 := HK.out.2.lg0
    have hlg1 := HK.out.2.lg1
    obtain ⟨pb, po, rfl, _, hpb, hpc⟩ := H.out.1 (by omega)
    have HPC : Hid (∀ q, q < v.n → pb < w.heap.size ∧ w.cell? ⟨pb, po + q * 4 + 1, none⟩ = some (.int .i64 (v.P q).ln)) := fun q hq => ⟨hpb, (hpc q hq).2.1⟩
    clear hpb hpc
    obtain ⟨sp, HSP, hspn, hsw⟩ : ∃ q : Nat, Hid (ahP fp B nb = (q : Int)) ∧ q < v.n ∧ (ahW fw B nb = 1 ∨ ahW fw B nb = -1) := HK.out.2.sp nb (Nat.le_refl _)
    obtain ⟨wy, HWY⟩ : ∃ q, Hid (ahW fw B nb = q) := ⟨_, rfl⟩
    obtain ⟨nw, HNW⟩ : ∃ q, Hid (-(ahW fw B nb) = q) := ⟨_, rfl⟩
    obtain ⟨at1, HAT⟩ : ∃ q, Hid (tlA v fp fa fw lg nb B = q) := ⟨_, rfl⟩
    obtain ⟨nf, HNF⟩ : ∃ q, Hid (-fw = q) := ⟨_, rfl⟩
    have hwn : IntKind.i64.wrap (-wy) = nw := by
      have h1 := HWY.out
      have h2 := HNW.out
      rw [IntKind.wrap_i64]; omega
    have hwf : IntKind.i64.wrap (-fw) = nf := by
      obtain ⟨_, _, _, h1, _⟩ := spot_nat HK.out.2.spot
      have h2 := HNF.out
      rw [IntKind.wrap_i64]; omega
    have hat : 0 ≤ at1 ∧ at1 ≤ (v.P sp).ln := by
      have h1 := HK.out.2.fr HK.out.1 (Nat.le_refl nb)
      have h2 := HK.out.2.hl nb (Nat.le_refl _)
      rw [HSP.out, Int.toNat_natCast] at h2
      rw [show frF v fp fa fw lg nb B nb = hvF v fp fa fw B nb - lg from if_pos rfl] at h1
      have h3 := HAT.out
      rw [tlA, HSP.out, Int.toNat_natCast, farI] at h3
      split at h3 <;> omega
    clear hsw
    go_upto_region 3 with fail
    go_cut [5] from 11 (fun s5 wx => ∃ ob : Nat, s5 = .pointer (some ⟨ob, 0, none⟩) ∧ Hid (w.heap.size + 1 + 1 < ob) ∧ Hid (Below w.heap.size w wx ∧ Box wx (w.heap.size) 38 #[.slice (some ⟨pb, po, none⟩) v.n pc, .slice ja v.m jc] ∧ Box wx (w.heap.size + 1) 43 #[.int .i64 fp, .int .i64 fa, .int .i64 fw, .int .i64 lg, .slice ba nb bk] ∧ Box wx (w.heap.size + 1 + 1) 43 #[.int .i64 0, .int .i64 0, .int .i64 0, .int .i64 0, .slice none 0 0] ∧ Box wx (ob) 43 #[.int .i64 (sp : Int), .int .i64 at1, .int .i64 wy, .int .i64 lg, .slice none 0 0]))
    case first =>
      have MD : Hid (Below w.heap.size w w1.drew ∧ Box w1.drew (w.heap.size) 38 #[.slice (some ⟨pb, po, none⟩) v.n pc, .slice ja v.m jc] ∧ Box w1.drew (w.heap.size + 1) 43 #[.int .i64 fp, .int .i64 fa, .int .i64 fw, .int .i64 lg, .slice ba nb bk] ∧ Box w1.drew (w.heap.size + 1 + 1) 43 #[.int .i64 0, .int .i64 0, .int .i64 0, .int .i64 0, .slice none 0 0]) := ⟨M1.out.1.drew, M1.out.2.1.drew, M1.out.2.2.1.drew, M1.out.2.2.2.drew⟩
      have a0 : w1.cell? ⟨w.heap.size, 0, none⟩ = some (.slice (some ⟨pb, po, none⟩) v.n pc) := M1.out.2.1.cell 0
      have a1 : w1.cell? ⟨w.heap.size, 1, none⟩ = some (.slice ja v.m jc) := M1.out.2.1.cell 1
      have b0 : w1.cell? ⟨w.heap.size + 1, 0, none⟩ = some (.int .i64 fp) := M1.out.2.2.1.cell 0
      have b1 : w1.cell? ⟨w.heap.size + 1, 1, none⟩ = some (.int .i64 fa) := M1.out.2.2.1.cell 1
      have b2 : w1.cell? ⟨w.heap.size + 1, 2, none⟩ = some (.int .i64 fw) := M1.out.2.2.1.cell 2
      have b3 : w1.cell? ⟨w.heap.size + 1, 3, none⟩ = some (.int .i64 lg) := M1.out.2.2.1.cell 3
      have b4 : w1.cell? ⟨w.heap.size + 1, 4, none⟩ = some (.slice ba nb bk) := M1.out.2.2.1.cell 4
      clear M1
      go_wp2_with fail
      refine wp_region_held_drew (S := (fun wx : World => wx.cell? ⟨w.heap.size, 0, none⟩ = some (.slice (some ⟨pb, po, none⟩) v.n pc) ∧ wx.cell? ⟨w.heap.size, 1, none⟩ = some (.slice ja v.m jc) ∧ wx.cell? ⟨w.heap.size + 1, 0, none⟩ = some (.int .i64 fp) ∧ wx.cell? ⟨w.heap.size + 1, 1, none⟩ = some (.int .i64 fa) ∧ wx.cell? ⟨w.heap.size + 1, 2, none⟩ = some (.int .i64 fw) ∧ wx.cell? ⟨w.heap.size + 1, 3, none⟩ = some (.int .i64 lg) ∧ wx.cell? ⟨w.heap.size + 1, 4, none⟩ = some (.slice ba nb bk))) (by kernel_rfl) ?_ (fun hHeld => ?_)
      · exact ⟨a0, a1, b0, b1, b2, b3, b4⟩
      clear a0 a1 b0 b1 b2 b3 b4
      generalize w1.drew = VD at MD hHeld ⊢
      refine tk 0 ?_
      refine tk 1 ?_
      refine tk 3 ?_
      refine tk 4 ?_
      refine ready2_lit (i := 2) (j := 6) (by kernel_rfl) rfl rfl (fun K hK => ?_) (fun K hK => ?_)
      · go_simp
        refine (tail42 HK.out.1 (some ⟨pb, po, none⟩) pc ja jc fp fa fw lg nb B ba bk _ (H.out.1.mono (Nat.le_refl _) MD.out.1 (Nat.le_refl _)) HK.out.2 (H.out.2.2.2.2.mono (Nat.le_refl _) MD.out.1 (Nat.le_refl _))).mono ?_
        rintro e w4 ⟨he, hb⟩
        rw [HSP.out, HAT.out, HWY.out] at he
        subst he
        have M4 : Hid (Below w.heap.size w w4 ∧ Box w4 (w.heap.size) 38 #[.slice (some ⟨pb, po, none⟩) v.n pc, .slice ja v.m jc] ∧ Box w4 (w.heap.size + 1) 43 #[.int .i64 fp, .int .i64 fa, .int .i64 fw, .int .i64 lg, .slice ba nb bk] ∧ Box w4 (w.heap.size + 1 + 1) 43 #[.int .i64 0, .int .i64 0, .int .i64 0, .int .i64 0, .slice none 0 0]) := ⟨MD.out.1.trans (hb.mono MD.out.1.size), MD.out.2.1.mono hb (Nat.le_refl _), MD.out.2.2.1.mono hb (Nat.le_refl _), MD.out.2.2.2.mono hb (Nat.le_refl _)⟩
        clear hb MD
        go_wp2_with fail
        refine hK.out _ _ ?_ (fun hHeld => ?_)
        · exact ⟨M4.out.2.1.cell 0, M4.out.2.1.cell 1, M4.out.2.2.1.cell 0, M4.out.2.2.1.cell 1, M4.out.2.2.1.cell 2, M4.out.2.2.1.cell 3, M4.out.2.2.1.cell 4⟩
        clear hK K
        refine tk 5 ?_
        refine rl 6 fun K hK => ?_
        have M5x : Hid (Below w.heap.size w (w4.alloc (.cells #[.int .i64 0, .int .i64 0, .int .i64 0, .int .i64 0, .slice none 0 0] 43)) ∧ Box (w4.alloc (.cells #[.int .i64 0, .int .i64 0, .int .i64 0, .int .i64 0, .slice none 0 0] 43)) (w.heap.size) 38 #[.slice (some ⟨pb, po, none⟩) v.n pc, .slice ja v.m jc] ∧ Box (w4.alloc (.cells #[.int .i64 0, .int .i64 0, .int .i64 0, .int .i64 0, .slice none 0 0] 43)) (w.heap.size + 1) 43 #[.int .i64 fp, .int .i64 fa, .int .i64 fw, .int .i64 lg, .slice ba nb bk] ∧ Box (w4.alloc (.cells #[.int .i64 0, .int .i64 0, .int .i64 0, .int .i64 0, .slice none 0 0] 43)) (w.heap.size + 1 + 1) 43 #[.int .i64 0, .int .i64 0, .int .i64 0, .int .i64 0, .slice none 0 0] ∧ Box (w4.alloc (.cells #[.int .i64 0, .int .i64 0, .int .i64 0, .int .i64 0, .slice none 0 0] 43)) w4.heap.size 43 #[.int .i64 0, .int .i64 0, .int .i64 0, .int .i64 0, .slice none 0 0]) := ⟨M4.out.1.alloc M4.out.1.size _, M4.out.2.1.alloc _, M4.out.2.2.1.alloc _, M4.out.2.2.2.alloc _, Box.new _ _ _⟩
        have HOB0 : Hid (w.heap.size + 1 + 1 < w4.heap.size) := M4.out.2.2.2.lt
        clear M4
        go_simp
        refine hK.out _ _ ?_ (fun hHeld => ?_)
        · exact ⟨M5x.out.2.1.cell 0, M5x.out.2.1.cell 1, M5x.out.2.2.1.cell 0, M5x.out.2.2.1.cell 1, M5x.out.2.2.1.cell 2, M5x.out.2.2.1.cell 3, M5x.out.2.2.1.cell 4⟩
        clear hK K
        clear hHeld
        generalize w4.alloc (.cells #[.int .i64 0, .int .i64 0, .int .i64 0, .int .i64 0, .slice none 0 0] 43) = w5 at M5x ⊢
        generalize w4.heap.size = ob at M5x HOB0 ⊢
        have M5 : Hid (Below w.heap.size w w5 ∧ Box w5 (w.heap.size) 38 #[.slice (some ⟨pb, po, none⟩) v.n pc, .slice ja v.m jc] ∧ Box w5 (w.heap.size + 1) 43 #[.int .i64 fp, .int .i64 fa, .int .i64 fw, .int .i64 lg, .slice ba nb bk] ∧ Box w5 (w.heap.size + 1 + 1) 43 #[.int .i64 0, .int .i64 0, .int .i64 0, .int .i64 0, .slice none 0 0] ∧ Box w5 (ob) 43 #[.int .i64 0, .int .i64 0, .int .i64 0, .int .i64 0, .slice none 0 0]) := M5x
        have HOB : Hid (w.heap.size + 1 + 1 < ob) := HOB0
        clear M5x HOB0
        have z0 : w5.cell? ⟨ob, 0, none⟩ = some (.int .i64 0) := M5.out.2.2.2.2.cell 0
        have z1 : w5.cell? ⟨ob, 1, none⟩ = some (.int .i64 0) := M5.out.2.2.2.2.cell 1
        have z2 : w5.cell? ⟨ob, 2, none⟩ = some (.int .i64 0) := M5.out.2.2.2.2.cell 2
        have z3 : w5.cell? ⟨ob, 3, none⟩ = some (.int .i64 0) := M5.out.2.2.2.2.cell 3
        have z4 : w5.cell? ⟨ob, 4, none⟩ = some (.slice none 0 0) := M5.out.2.2.2.2.cell 4
        have q0 := M5.out.2.2.2.2.free 0
        have q1 := M5.out.2.2.2.2.free 1
        have q2 := M5.out.2.2.2.2.free 2
        have q3 := M5.out.2.2.2.2.free 3
        have q4 := M5.out.2.2.2.2.free 4
        have HOL : Hid (w.heap.size ≤ ob) := by have := HOB.out; show _ ≤ _; omega
        have e0 : w.heap.size ≠ ob := by have := HOB.out; omega
        have e1 : w.heap.size + 1 ≠ ob := by have := HOB.out; omega
        have e2 : w.heap.size + 1 + 1 ≠ ob := by have := HOB.out; omega
        have MF : Hid (Below w.heap.size w (((((w5.setCell ⟨ob, 0, none⟩ (.int .i64 (sp : Int))).setCell ⟨ob, 1, none⟩ (.int .i64 at1)).setCell ⟨ob, 2, none⟩ (.int .i64 wy)).setCell ⟨ob, 3, none⟩ (.int .i64 lg)).setCell ⟨ob, 4, none⟩ (.slice none 0 0)) ∧ Box (((((w5.setCell ⟨ob, 0, none⟩ (.int .i64 (sp : Int))).setCell ⟨ob, 1, none⟩ (.int .i64 at1)).setCell ⟨ob, 2, none⟩ (.int .i64 wy)).setCell ⟨ob, 3, none⟩ (.int .i64 lg)).setCell ⟨ob, 4, none⟩ (.slice none 0 0)) (w.heap.size) 38 #[.slice (some ⟨pb, po, none⟩) v.n pc, .slice ja v.m jc] ∧ Box (((((w5.setCell ⟨ob, 0, none⟩ (.int .i64 (sp : Int))).setCell ⟨ob, 1, none⟩ (.int .i64 at1)).setCell ⟨ob, 2, none⟩ (.int .i64 wy)).setCell ⟨ob, 3, none⟩ (.int .i64 lg)).setCell ⟨ob, 4, none⟩ (.slice none 0 0)) (w.heap.size + 1) 43 #[.int .i64 fp, .int .i64 fa, .int .i64 fw, .int .i64 lg, .slice ba nb bk] ∧ Box (((((w5.setCell ⟨ob, 0, none⟩ (.int .i64 (sp : Int))).setCell ⟨ob, 1, none⟩ (.int .i64 at1)).setCell ⟨ob, 2, none⟩ (.int .i64 wy)).setCell ⟨ob, 3, none⟩ (.int .i64 lg)).setCell ⟨ob, 4, none⟩ (.slice none 0 0)) (w.heap.size + 1 + 1) 43 #[.int .i64 0, .int .i64 0, .int .i64 0, .int .i64 0, .slice none 0 0] ∧ Box (((((w5.setCell ⟨ob, 0, none⟩ (.int .i64 (sp : Int))).setCell ⟨ob, 1, none⟩ (.int .i64 at1)).setCell ⟨ob, 2, none⟩ (.int .i64 wy)).setCell ⟨ob, 3, none⟩ (.int .i64 lg)).setCell ⟨ob, 4, none⟩ (.slice none 0 0)) (ob) 43 #[.int .i64 (sp : Int), .int .i64 at1, .int .i64 wy, .int .i64 lg, .slice none 0 0]) := ⟨(((((M5.out.1.setCell HOL.out _).setCell HOL.out _).setCell HOL.out _).setCell HOL.out _).setCell HOL.out _), (((((M5.out.2.1.other e0 _).other e0 _).other e0 _).other e0 _).other e0 _), (((((M5.out.2.2.1.other e1 _).other e1 _).other e1 _).other e1 _).other e1 _), (((((M5.out.2.2.2.1.other e2 _).other e2 _).other e2 _).other e2 _).other e2 _), by
          have h9 := (((((M5.out.2.2.2.2.set 0 (.int .i64 (sp : Int))).set 1 (.int .i64 at1)).set 2 (.int .i64 wy)).set 3 (.int .i64 lg)).set 4 (.slice none 0 0))
          exact h9⟩
        clear M5
        refine rl 7 fun K hK => ?_
        go_simp
        refine hK.out _ _ ?_ (fun hHeld => ?_)
        · exact ⟨MF.out.2.1.cell 0, MF.out.2.1.cell 1, MF.out.2.2.1.cell 0, MF.out.2.2.1.cell 1, MF.out.2.2.1.cell 2, MF.out.2.2.1.cell 3, MF.out.2.2.1.cell 4⟩
        clear hK K
        refine wpAnyH_done (by kernel_rfl) ?_ _
        clear z0 z1 z2 z3 z4 q0 q1 q2 q3 q4 hHeld
        go_wp2_with fail
        go_meet
        case rel => exact ⟨ob, rfl, HOB, MF⟩
      · have M4x : Hid (Below w.heap.size w (VD.alloc (.cells #[.int .i64 0, .int .i64 0, .int .i64 0, .int .i64 0, .slice none 0 0] 43)) ∧ Box (VD.alloc (.cells #[.int .i64 0, .int .i64 0, .int .i64 0, .int .i64 0, .slice none 0 0] 43)) (w.heap.size) 38 #[.slice (some ⟨pb, po, none⟩) v.n pc, .slice ja v.m jc] ∧ Box (VD.alloc (.cells #[.int .i64 0, .int .i64 0, .int .i64 0, .int .i64 0, .slice none 0 0] 43)) (w.heap.size + 1) 43 #[.int .i64 fp, .int .i64 fa, .int .i64 fw, .int .i64 lg, .slice ba nb bk] ∧ Box (VD.alloc (.cells #[.int .i64 0, .int .i64 0, .int .i64 0, .int .i64 0, .slice none 0 0] 43)) (w.heap.size + 1 + 1) 43 #[.int .i64 0, .int .i64 0, .int .i64 0, .int .i64 0, .slice none 0 0] ∧ Box (VD.alloc (.cells #[.int .i64 0, .int .i64 0, .int .i64 0, .int .i64 0, .slice none 0 0] 43)) VD.heap.size 43 #[.int .i64 0, .int .i64 0, .int .i64 0, .int .i64 0, .slice none 0 0]) := ⟨MD.out.1.alloc MD.out.1.size _, MD.out.2.1.alloc _, MD.out.2.2.1.alloc _, MD.out.2.2.2.alloc _, Box.new _ _ _⟩
        have HOB0 : Hid (w.heap.size + 1 + 1 < VD.heap.size) := MD.out.2.2.2.lt
        clear MD
        go_simp
        refine hK.out _ _ ?_ (fun hHeld => ?_)
        · exact ⟨M4x.out.2.1.cell 0, M4x.out.2.1.cell 1, M4x.out.2.2.1.cell 0, M4x.out.2.2.1.cell 1, M4x.out.2.2.1.cell 2, M4x.out.2.2.1.cell 3, M4x.out.2.2.1.cell 4⟩
        clear hK K
        clear hHeld
        generalize VD.alloc (.cells #[.int .i64 0, .int .i64 0, .int .i64 0, .int .i64 0, .slice none 0 0] 43) = w4 at M4x ⊢
        generalize VD.heap.size = ob at M4x HOB0 ⊢
        have M4 : Hid (Below w.heap.size w w4 ∧ Box w4 (w.heap.size) 38 #[.slice (some ⟨pb, po, none⟩) v.n pc, .slice ja v.m jc] ∧ Box w4 (w.heap.size + 1) 43 #[.int .i64 fp, .int .i64 fa, .int .i64 fw, .int .i64 lg, .slice ba nb bk] ∧ Box w4 (w.heap.size + 1 + 1) 43 #[.int .i64 0, .int .i64 0, .int .i64 0, .int .i64 0, .slice none 0 0] ∧ Box w4 (ob) 43 #[.int .i64 0, .int .i64 0, .int .i64 0, .int .i64 0, .slice none 0 0]) := M4x
        have HOB : Hid (w.heap.size + 1 + 1 < ob) := HOB0
        clear M4x HOB0
        refine rl 2 fun K hK => ?_
        go_simp
        refine (tail42 HK.out.1 (some ⟨pb, po, none⟩) pc ja jc fp fa fw lg nb B ba bk _ (H.out.1.mono (Nat.le_refl _) M4.out.1 (Nat.le_refl _)) HK.out.2 (H.out.2.2.2.2.mono (Nat.le_refl _) M4.out.1 (Nat.le_refl _))).mono ?_
        rintro e w5 ⟨he, hb⟩
        rw [HSP.out, HAT.out, HWY.out] at he
        subst he
        have M5 : Hid (Below w.heap.size w w5 ∧ Box w5 (w.heap.size) 38 #[.slice (some ⟨pb, po, none⟩) v.n pc, .slice ja v.m jc] ∧ Box w5 (w.heap.size + 1) 43 #[.int .i64 fp, .int .i64 fa, .int .i64 fw, .int .i64 lg, .slice ba nb bk] ∧ Box w5 (w.heap.size + 1 + 1) 43 #[.int .i64 0, .int .i64 0, .int .i64 0, .int .i64 0, .slice none 0 0] ∧ Box w5 (ob) 43 #[.int .i64 0, .int .i64 0, .int .i64 0, .int .i64 0, .slice none 0 0]) := ⟨M4.out.1.trans (hb.mono M4.out.1.size), M4.out.2.1.mono hb (Nat.le_refl _), M4.out.2.2.1.mono hb (Nat.le_refl _), M4.out.2.2.2.1.mono hb (Nat.le_refl _), M4.out.2.2.2.2.mono hb (Nat.le_refl _)⟩
        clear hb M4
        go_wp2_with fail
        refine hK.out _ _ ?_ (fun hHeld => ?_)
        · exact ⟨M5.out.2.1.cell 0, M5.out.2.1.cell 1, M5.out.2.2.1.cell 0, M5.out.2.2.1.cell 1, M5.out.2.2.1.cell 2, M5.out.2.2.1.cell 3, M5.out.2.2.1.cell 4⟩
        clear hK K
        refine tk 5 ?_
        have z0 : w5.cell? ⟨ob, 0, none⟩ = some (.int .i64 0) := M5.out.2.2.2.2.cell 0
        have z1 : w5.cell? ⟨ob, 1, none⟩ = some (.int .i64 0) := M5.out.2.2.2.2.cell 1
        have z2 : w5.cell? ⟨ob, 2, none⟩ = some (.int .i64 0) := M5.out.2.2.2.2.cell 2
        have z3 : w5.cell? ⟨ob, 3, none⟩ = some (.int .i64 0) := M5.out.2.2.2.2.cell 3
        have z4 : w5.cell? ⟨ob, 4, none⟩ = some (.slice none 0 0) := M5.out.2.2.2.2.cell 4
        have q0 := M5.out.2.2.2.2.free 0
        have q1 := M5.out.2.2.2.2.free 1
        have q2 := M5.out.2.2.2.2.free 2
        have q3 := M5.out.2.2.2.2.free 3
        have q4 := M5.out.2.2.2.2.free 4
        have HOL : Hid (w.heap.size ≤ ob) := by have := HOB.out; show _ ≤ _; omega
        have e0 : w.heap.size ≠ ob := by have := HOB.out; omega
        have e1 : w.heap.size + 1 ≠ ob := by have := HOB.out; omega
        have e2 : w.heap.size + 1 + 1 ≠ ob := by have := HOB.out; omega
        have MF : Hid (Below w.heap.size w (((((w5.setCell ⟨ob, 0, none⟩ (.int .i64 (sp : Int))).setCell ⟨ob, 1, none⟩ (.int .i64 at1)).setCell ⟨ob, 2, none⟩ (.int .i64 wy)).setCell ⟨ob, 3, none⟩ (.int .i64 lg)).setCell ⟨ob, 4, none⟩ (.slice none 0 0)) ∧ Box (((((w5.setCell ⟨ob, 0, none⟩ (.int .i64 (sp : Int))).setCell ⟨ob, 1, none⟩ (.int .i64 at1)).setCell ⟨ob, 2, none⟩ (.int .i64 wy)).setCell ⟨ob, 3, none⟩ (.int .i64 lg)).setCell ⟨ob, 4, none⟩ (.slice none 0 0)) (w.heap.size) 38 #[.slice (some ⟨pb, po, none⟩) v.n pc, .slice ja v.m jc] ∧ Box (((((w5.setCell ⟨ob, 0, none⟩ (.int .i64 (sp : Int))).setCell ⟨ob, 1, none⟩ (.int .i64 at1)).setCell ⟨ob, 2, none⟩ (.int .i64 wy)).setCell ⟨ob, 3, none⟩ (.int .i64 lg)).setCell ⟨ob, 4, none⟩ (.slice none 0 0)) (w.heap.size + 1) 43 #[.int .i64 fp, .int .i64 fa, .int .i64 fw, .int .i64 lg, .slice ba nb bk] ∧ Box (((((w5.setCell ⟨ob, 0, none⟩ (.int .i64 (sp : Int))).setCell ⟨ob, 1, none⟩ (.int .i64 at1)).setCell ⟨ob, 2, none⟩ (.int .i64 wy)).setCell ⟨ob, 3, none⟩ (.int .i64 lg)).setCell ⟨ob, 4, none⟩ (.slice none 0 0)) (w.heap.size + 1 + 1) 43 #[.int .i64 0, .int .i64 0, .int .i64 0, .int .i64 0, .slice none 0 0] ∧ Box (((((w5.setCell ⟨ob, 0, none⟩ (.int .i64 (sp : Int))).setCell ⟨ob, 1, none⟩ (.int .i64 at1)).setCell ⟨ob, 2, none⟩ (.int .i64 wy)).setCell ⟨ob, 3, none⟩ (.int .i64 lg)).setCell ⟨ob, 4, none⟩ (.slice none 0 0)) (ob) 43 #[.int .i64 (sp : Int), .int .i64 at1, .int .i64 wy, .int .i64 lg, .slice none 0 0]) := ⟨(((((M5.out.1.setCell HOL.out _).setCell HOL.out _).setCell HOL.out _).setCell HOL.out _).setCell HOL.out _), (((((M5.out.2.1.other e0 _).other e0 _).other e0 _).other e0 _).other e0 _), (((((M5.out.2.2.1.other e1 _).other e1 _).other e1 _).other e1 _).other e1 _), (((((M5.out.2.2.2.1.other e2 _).other e2 _).other e2 _).other e2 _).other e2 _), by
          have h9 := (((((M5.out.2.2.2.2.set 0 (.int .i64 (sp : Int))).set 1 (.int .i64 at1)).set 2 (.int .i64 wy)).set 3 (.int .i64 lg)).set 4 (.slice none 0 0))
          exact h9⟩
        clear M5
        refine rl 7 fun K hK => ?_
        go_simp
        refine hK.out _ _ ?_ (fun hHeld => ?_)
        · exact ⟨MF.out.2.1.cell 0, MF.out.2.1.cell 1, MF.out.2.2.1.cell 0, MF.out.2.2.1.cell 1, MF.out.2.2.1.cell 2, MF.out.2.2.1.cell 3, MF.out.2.2.1.cell 4⟩
        clear hK K
        refine wpAnyH_done (by kernel_rfl) ?_ _
        clear z0 z1 z2 z3 z4 q0 q1 q2 q3 q4 hHeld
        go_wp2_with fail
        go_meet
        case rel => exact ⟨ob, rfl, HOB, MF⟩
    case rest =>
      obtain ⟨ob, rfl, HOB, M3⟩ := hcut
      clear M1
      generalize wc = V3 at M3 ⊢
      have HOL : Hid (w.heap.size ≤ ob) := by have := HOB.out; show _ ≤ _; omega
      have e0 : w.heap.size ≠ ob := by have := HOB.out; omega
      have e1 : w.heap.size + 1 ≠ ob := by have := HOB.out; omega
      have e2 : w.heap.size + 1 + 1 ≠ ob := by have := HOB.out; omega
      have o2 : V3.cell? ⟨ob, 2, none⟩ = some (.int .i64 wy) := M3.out.2.2.2.2.cell 2
      have f2 := M3.out.2.2.2.2.free 2
      have M4 : Hid (Below w.heap.size w (V3.setCell ⟨ob, 2, none⟩ (.int .i64 nw)) ∧ Box (V3.setCell ⟨ob, 2, none⟩ (.int .i64 nw)) (w.heap.size) 38 #[.slice (some ⟨pb, po, none⟩) v.n pc, .slice ja v.m jc] ∧ Box (V3.setCell ⟨ob, 2, none⟩ (.int .i64 nw)) (w.heap.size + 1) 43 #[.int .i64 fp, .int .i64 fa, .int .i64 fw, .int .i64 lg, .slice ba nb bk] ∧ Box (V3.setCell ⟨ob, 2, none⟩ (.int .i64 nw)) (w.heap.size + 1 + 1) 43 #[.int .i64 0, .int .i64 0, .int .i64 0, .int .i64 0, .slice none 0 0] ∧ Box (V3.setCell ⟨ob, 2, none⟩ (.int .i64 nw)) (ob) 43 #[.int .i64 (sp : Int), .int .i64 at1, .int .i64 nw, .int .i64 lg, .slice none 0 0]) := ⟨M3.out.1.setCell HOL.out _, M3.out.2.1.other e0 _, M3.out.2.2.1.other e1 _, M3.out.2.2.2.1.other e2 _, by
        have h9 := M3.out.2.2.2.2.set 2 (.int .i64 nw)
        exact h9⟩
      clear M3
      go_upto_region 5 with fail
      clear o2 f2
      generalize V3.setCell ⟨ob, 2, none⟩ (.int .i64 nw) = V4 at M4 ⊢
      have t0 : V4.cell? ⟨w.heap.size + 1, 0, none⟩ = some (.int .i64 fp) := M4.out.2.2.1.cell 0
      have t2 : V4.cell? ⟨w.heap.size + 1, 2, none⟩ = some (.int .i64 fw) := M4.out.2.2.1.cell 2
      have M5 : Hid ((Below w.heap.size w (V4.alloc (.cells #[.int .i64 fp, .int .i64 nf] 79)) ∧ Box (V4.alloc (.cells #[.int .i64 fp, .int .i64 nf] 79)) (w.heap.size) 38 #[.slice (some ⟨pb, po, none⟩) v.n pc, .slice ja v.m jc] ∧ Box (V4.alloc (.cells #[.int .i64 fp, .int .i64 nf] 79)) (w.heap.size + 1) 43 #[.int .i64 fp, .int .i64 fa, .int .i64 fw, .int .i64 lg, .slice ba nb bk] ∧ Box (V4.alloc (.cells #[.int .i64 fp, .int .i64 nf] 79)) (w.heap.size + 1 + 1) 43 #[.int .i64 0, .int .i64 0, .int .i64 0, .int .i64 0, .slice none 0 0] ∧ Box (V4.alloc (.cells #[.int .i64 fp, .int .i64 nf] 79)) (ob) 43 #[.int .i64 (sp : Int), .int .i64 at1, .int .i64 nw, .int .i64 lg, .slice none 0 0]) ∧ VOwn w.heap.size 79 2 (V4.alloc (.cells #[.int .i64 fp, .int .i64 nf] 79)) (.slice (some ⟨V4.heap.size, 0, none⟩) (0 + 1) 1) (0 + 1) (intF (afF fp fw B))) := ⟨⟨M4.out.1.alloc M4.out.1.size _, M4.out.2.1.alloc _, M4.out.2.2.1.alloc _, M4.out.2.2.2.1.alloc _, M4.out.2.2.2.2.alloc _⟩, own_new1 (Box.new _ _ _) M4.out.1.size rfl (by show Value.int .i64 (-fw) = _; rw [HNF.out])⟩
      clear M4
      go_upto_region 6 with fail
      clear t0 t2
      generalize V4.alloc (.cells #[.int .i64 fp, .int .i64 nf] 79) = V5 at M5 ⊢
      generalize V4.heap.size = ab at M5 ⊢
      have t4 : V5.cell? ⟨w.heap.size + 1, 4, none⟩ = some (.slice ba nb bk) := M5.out.1.2.2.1.cell 4
      go_wp2_with fail
      clear t4
      go_loopw [6, 40] (fun u c wr => ∃ (k : Nat) (xa : Option Addr) (xc : Nat), k ≤ nb ∧ c = .int .i64 k ∧ u = .slice xa (k + 1) xc ∧ Hid ((Below w.heap.size w wr ∧ Box wr (w.heap.size) 38 #[.slice (some ⟨pb, po, none⟩) v.n pc, .slice ja v.m jc] ∧ Box wr (w.heap.size + 1) 43 #[.int .i64 fp, .int .i64 fa, .int .i64 fw, .int .i64 lg, .slice ba nb bk] ∧ Box wr (w.heap.size + 1 + 1) 43 #[.int .i64 0, .int .i64 0, .int .i64 0, .int .i64 0, .slice none 0 0] ∧ Box wr (ob) 43 #[.int .i64 (sp : Int), .int .i64 at1, .int .i64 nw, .int .i64 lg, .slice none 0 0]) ∧ VOwn w.heap.size 79 2 wr (.slice xa (k + 1) xc) (k + 1) (intF (afF fp fw B)))) (fun _ c _ => nb - (intOf c).toNat)
      case atStart => exact ⟨0, (some ⟨ab, 0, none⟩), 1, Nat.zero_le _, rfl, rfl, M5⟩
      case round =>
        clear M5
        obtain ⟨k, xa, xc, hk, rfl, rfl, D⟩ := hrel
        by_cases hlt : k < nb
        · obtain ⟨bb, bo, hbe, _, hbl, hbc⟩ := H.out.2.2.2.2 (by omega)
          obtain ⟨xp, HXP, hxpn, hxw⟩ := step_nat (HK.out.2.step k hlt)
          obtain ⟨xw, HXW⟩ : ∃ q, Hid (B k 1 = q) := ⟨_, rfl⟩
          obtain ⟨nx, HNX⟩ : ∃ q, Hid (-(B k 1) = q) := ⟨_, rfl⟩
          have hwx : IntKind.i64.wrap (-xw) = nx := by
            have h1 := HXW.out
            have h2 := HNX.out
            rw [IntKind.wrap_i64]; omega
          have HXP2 : Hid (B k 0 = (xp : Int)) := HXP
          have hk0 : (0 : Int) ≤ (k : Int) := by omega
          have hkn : (k : Int) < (nb : Int) := by omega
          have d0 : wr.cell? ⟨bb, bo + k * 2, none⟩ = some (.int .i64 (xp : Int)) := cell_keep D.out.1.1 hbl (by have := hbc k hlt 0 (by omega); rw [HXP] at this; exact this)
          have d1 : wr.cell? ⟨bb, bo + k * 2 + 1, none⟩ = some (.int .i64 xw) := cell_keep D.out.1.1 hbl (by have := hbc k hlt 1 (by omega); rw [HXW.out] at this; exact this)
          have hbs : ba = some ⟨bb, bo, none⟩ := hbe
          subst hbs
          have D1 : Hid (((Below w.heap.size w (wr.alloc (.cells #[.int .i64 (xp : Int), .int .i64 xw] 79)) ∧ Box (wr.alloc (.cells #[.int .i64 (xp : Int), .int .i64 xw] 79)) (w.heap.size) 38 #[.slice (some ⟨pb, po, none⟩) v.n pc, .slice ja v.m jc] ∧ Box (wr.alloc (.cells #[.int .i64 (xp : Int), .int .i64 xw] 79)) (w.heap.size + 1) 43 #[.int .i64 fp, .int .i64 fa, .int .i64 fw, .int .i64 lg, .slice (some ⟨bb, bo, none⟩) nb bk] ∧ Box (wr.alloc (.cells #[.int .i64 (xp : Int), .int .i64 xw] 79)) (w.heap.size + 1 + 1) 43 #[.int .i64 0, .int .i64 0, .int .i64 0, .int .i64 0, .slice none 0 0] ∧ Box (wr.alloc (.cells #[.int .i64 (xp : Int), .int .i64 xw] 79)) (ob) 43 #[.int .i64 (sp : Int), .int .i64 at1, .int .i64 nw, .int .i64 lg, .slice none 0 0]) ∧ VOwn w.heap.size 79 2 (wr.alloc (.cells #[.int .i64 (xp : Int), .int .i64 xw] 79)) (.slice xa (k + 1) xc) (k + 1) (intF (afF fp fw B))) ∧ Box (wr.alloc (.cells #[.int .i64 (xp : Int), .int .i64 xw] 79)) wr.heap.size 79 #[.int .i64 (xp : Int), .int .i64 xw]) := ⟨⟨⟨D.out.1.1.alloc D.out.1.1.size _, D.out.1.2.1.alloc _, D.out.1.2.2.1.alloc _, D.out.1.2.2.2.1.alloc _, D.out.1.2.2.2.2.alloc _⟩, D.out.2.alloc _⟩, Box.new _ _ _⟩
          clear hbc hbl D HXP hxw
          go_upto_region 9 with fail
          clear d0 d1
          generalize wr.alloc (.cells #[.int .i64 (xp : Int), .int .i64 xw] 79) = V6 at D1 ⊢
          generalize wr.heap.size = sq at D1 ⊢
          have y0 : V6.cell? ⟨sq, 0, none⟩ = some (.int .i64 (xp : Int)) := D1.out.2.cell 0
          have y1 : V6.cell? ⟨sq, 1, none⟩ = some (.int .i64 xw) := D1.out.2.cell 1
          have HVS : Hid ((#[.int .i64 (xp : Int), .int .i64 nx] : Array Value).toList = (List.range 2).map (intF (afF fp fw B) (k + 1))) := by
            have e0 : afF fp fw B (k + 1) 0 = (xp : Int) := HXP2.out
            have e1 : afF fp fw B (k + 1) 1 = nx := HNX.out
            show _ = _
            simp [List.range_succ, intF, e0, e1]
          have hsz : w.heap.size ≤ (V6.alloc (.cells #[.int .i64 (xp : Int), .int .i64 nx] 79)).heap.size := (D1.out.1.1.1.alloc D1.out.1.1.1.size _).size
          go_wp2_with (at_builtin; go_must (refine wpList_vapp _ rfl _ _ 41 rfl w.heap.size 79 i0 _ 2 16 Tryz.underlying41 hi0 hz0 hs0 hb0 rfl (by decide) (.slice xa (k + 1) xc) (k + 1) (intF (afF fp fw B)) rfl (D1.out.1.2.alloc _) (fun _ _ => rfl) V6.heap.size 1 #[.int .i64 (xp : Int), .int .i64 nx] rfl (Box.new _ _ _) HVS.out (by simp only [maxLen]; omega) (by omega) hsz (Halt.mk ?_)))
          intro v2 w6 ho2 hg2
          have HAp := appz (Nat.le_refl _) D1.out.1.1.1 D1.out.1.2 hg2
          obtain ⟨a2, c2, rfl⟩ := ho2.val
          have HD : Hid ((Below w.heap.size w w6 ∧ Box w6 (w.heap.size) 38 #[.slice (some ⟨pb, po, none⟩) v.n pc, .slice ja v.m jc] ∧ Box w6 (w.heap.size + 1) 43 #[.int .i64 fp, .int .i64 fa, .int .i64 fw, .int .i64 lg, .slice (some ⟨bb, bo, none⟩) nb bk] ∧ Box w6 (w.heap.size + 1 + 1) 43 #[.int .i64 0, .int .i64 0, .int .i64 0, .int .i64 0, .slice none 0 0] ∧ Box w6 (ob) 43 #[.int .i64 (sp : Int), .int .i64 at1, .int .i64 nw, .int .i64 lg, .slice none 0 0]) ∧ VOwn w.heap.size 79 2 w6 (.slice a2 (k + 1 + 1) c2) (k + 1 + 1) (intF (afF fp fw B))) := ⟨⟨HAp.1, HAp.2 _ _ _ (by decide) D1.out.1.1.2.1, HAp.2 _ _ _ (by decide) D1.out.1.1.2.2.1, HAp.2 _ _ _ (by decide) D1.out.1.1.2.2.2.1, HAp.2 _ _ _ (by decide) D1.out.1.1.2.2.2.2⟩, ho2⟩
          clear HAp ho2 hg2 hsz D1 y0 y1
          go_wp2_with fail
          go_roundw
          case rel => exact ⟨k + 1, a2, c2, by omega, by go_num, rfl, HD⟩
          case measure => simp [intOf]; omega
        · obtain rfl : nb = k := by omega
          have hge : ¬ ((nb : Int) < (nb : Int)) := by omega
          obtain ⟨g, rfl, hgl, hgs⟩ := D.out.2.addr (by omega)
          have ob0 : wr.cell? ⟨ob, 0, none⟩ = some (.int .i64 (sp : Int)) := D.out.1.2.2.2.2.cell 0
          have ob1 : wr.cell? ⟨ob, 1, none⟩ = some (.int .i64 at1) := D.out.1.2.2.2.2.cell 1
          have ob2 : wr.cell? ⟨ob, 2, none⟩ = some (.int .i64 nw) := D.out.1.2.2.2.2.cell 2
          have n0 : wr.cell? ⟨w.heap.size, 0, none⟩ = some (.slice (some ⟨pb, po, none⟩) v.n pc) := D.out.1.2.1.cell 0
          have n1 : wr.cell? ⟨w.heap.size, 1, none⟩ = some (.slice ja v.m jc) := D.out.1.2.1.cell 1
          go_wp2_with fail
          clear ob0 ob1 ob2 n0 n1
          refine (behind63 HK.out.1 (some ⟨pb, po, none⟩) pc ja jc sp at1 nw wr hspn hat (H.out.1.mono (Nat.le_refl _) D.out.1.1 (Nat.le_refl _))).mono ?_
          rintro e w7 ⟨he, hb7⟩
          obtain ⟨x0, HX0⟩ : ∃ q, Hid (farI (v.P sp).ln at1 nw = q) := ⟨_, rfl⟩
          rw [HX0.out] at he
          subst he
          have HHV : Hid (1 ≤ nb → x0 = lg - hvF v fp fa fw B (nb - 1)) := fun h1 => by
            rw [← HX0.out, ← HAT.out, ← HNW.out]
            exact hb_first HK.out.1 HK.out.2 h1 HSP.out
          have hwl : IntKind.i64.wrap ((nb : Int) + 1 - 2) = (nb : Int) - 1 := by rw [IntKind.wrap_i64]; omega
          obtain ⟨Q, HQ⟩ : ∃ Q, Hid (w7.heap.size = Q) := ⟨_, rfl⟩
          have D7 : Hid ((Below w.heap.size w w7 ∧ Box w7 (w.heap.size) 38 #[.slice (some ⟨pb, po, none⟩) v.n pc, .slice ja v.m jc] ∧ Box w7 (w.heap.size + 1) 43 #[.int .i64 fp, .int .i64 fa, .int .i64 fw, .int .i64 lg, .slice ba nb bk] ∧ Box w7 (w.heap.size + 1 + 1) 43 #[.int .i64 0, .int .i64 0, .int .i64 0, .int .i64 0, .slice none 0 0] ∧ Box w7 (ob) 43 #[.int .i64 (sp : Int), .int .i64 at1, .int .i64 nw, .int .i64 lg, .slice none 0 0]) ∧ VOwn w.heap.size 79 2 w7 (.slice (some ⟨g, 0, none⟩) (nb + 1) xc) (nb + 1) (intF (afF fp fw B)) ∧ VOwn Q 79 2 w7 (.slice none 0 0) 0 (intF (bkF fp fw nb B))) := ⟨⟨D.out.1.1.trans (hb7.mono D.out.1.1.size), D.out.1.2.1.mono hb7 (Nat.le_refl _), D.out.1.2.2.1.mono hb7 (Nat.le_refl _), D.out.1.2.2.2.1.mono hb7 (Nat.le_refl _), D.out.1.2.2.2.2.mono hb7 (Nat.le_refl _)⟩, D.out.2.mono (Nat.le_refl _) hb7 (Nat.le_refl _), VOwn.nil _ _ _ _ _⟩
          have HGQ : Hid (g < Q) := by have := hb7.size; have := HQ.out; show _ < _; omega
          have HHQ : Hid (w.heap.size ≤ Q) := by have := D7.out.1.1.size; have := HQ.out; show _ ≤ _; omega
          have HQL : Hid (Q ≤ w7.heap.size) := by have := HQ.out; show _ ≤ _; omega
          clear hb7 D hgl hgs HX0
          go_wp2_with fail
          go_loopw [9, 10] (fun h i wr => ∃ (m : Nat) (x : Int) (ya : Option Addr) (yc : Nat), m ≤ nb ∧ i = .int .i64 ((m : Int) - 1) ∧ h = .int .i64 x ∧ Hid ((1 ≤ m → x = lg - hvF v fp fa fw B (m - 1)) ∧ (m = 0 → noF v fp fa fw B = 0)) ∧ Hid (((Below w.heap.size w wr ∧ Box wr (w.heap.size) 38 #[.slice (some ⟨pb, po, none⟩) v.n pc, .slice ja v.m jc] ∧ Box wr (w.heap.size + 1) 43 #[.int .i64 fp, .int .i64 fa, .int .i64 fw, .int .i64 lg, .slice ba nb bk] ∧ Box wr (w.heap.size + 1 + 1) 43 #[.int .i64 0, .int .i64 0, .int .i64 0, .int .i64 0, .slice none 0 0] ∧ Box wr (ob) 43 #[.int .i64 (sp : Int), .int .i64 at1, .int .i64 nw, .int .i64 lg, .slice ya (nb - m) yc]) ∧ VOwn w.heap.size 79 2 wr (.slice (some ⟨g, 0, none⟩) (nb + 1) xc) (nb + 1) (intF (afF fp fw B)) ∧ VOwn Q 79 2 wr (.slice ya (nb - m) yc) (nb - m) (intF (bkF fp fw nb B))) ∧ Q ≤ wr.heap.size)) (fun _ i _ => (intOf i + 1).toNat)
          case atStart => exact ⟨nb, x0, none, 0, Nat.le_refl _, by rfl, rfl, ⟨HHV.out, fun h => by omega⟩, by rw [Nat.sub_self]; exact ⟨D7.out, HQL.out⟩⟩
          case round =>
            clear D7
            obtain ⟨m, x, ya, yc, hm, rfl, rfl, HM, D0⟩ := hrel
            have D : Hid ((Below w.heap.size w wr ∧ Box wr (w.heap.size) 38 #[.slice (some ⟨pb, po, none⟩) v.n pc, .slice ja v.m jc] ∧ Box wr (w.heap.size + 1) 43 #[.int .i64 fp, .int .i64 fa, .int .i64 fw, .int .i64 lg, .slice ba nb bk] ∧ Box wr (w.heap.size + 1 + 1) 43 #[.int .i64 0, .int .i64 0, .int .i64 0, .int .i64 0, .slice none 0 0] ∧ Box wr (ob) 43 #[.int .i64 (sp : Int), .int .i64 at1, .int .i64 nw, .int .i64 lg, .slice ya (nb - m) yc]) ∧ VOwn w.heap.size 79 2 wr (.slice (some ⟨g, 0, none⟩) (nb + 1) xc) (nb + 1) (intF (afF fp fw B)) ∧ VOwn Q 79 2 wr (.slice ya (nb - m) yc) (nb - m) (intF (bkF fp fw nb B))) := D0.out.1
            have HQR : Hid (Q ≤ wr.heap.size) := D0.out.2
            clear D0
            by_cases hm0 : m = 0
            · have HMN : Hid (nb - m = nb - noF v fp fa fw B) := by have := HM.out.2 hm0; show _ = _; omega
              have hlt0 : decide (0 ≤ (m : Int) - 1) = false := by simp; omega
              have hlt1 : decide ((m : Int) - 1 ≥ 0) = false := by simp; omega
              have hlt2 : decide (1 ≤ (m : Int)) = false := by simp; omega
              have hlt3 : ¬ (1 ≤ (m : Int)) := by omega
              have hlt4 : ¬ (0 ≤ (m : Int) - 1) := by omega
              clear hm0
              have o0 : wr.cell? ⟨ob, 0, none⟩ = some (.int .i64 (sp : Int)) := D.out.1.2.2.2.2.cell 0
              have o1 : wr.cell? ⟨ob, 1, none⟩ = some (.int .i64 at1) := D.out.1.2.2.2.2.cell 1
              have o2 : wr.cell? ⟨ob, 2, none⟩ = some (.int .i64 nw) := D.out.1.2.2.2.2.cell 2
              have o3 : wr.cell? ⟨ob, 3, none⟩ = some (.int .i64 lg) := D.out.1.2.2.2.2.cell 3
              have o4 : wr.cell? ⟨ob, 4, none⟩ = some (.slice ya (nb - m) yc) := D.out.1.2.2.2.2.cell 4
              have z0 : wr.cell? ⟨w.heap.size + 1 + 1, 0, none⟩ = some (.int .i64 0) := D.out.1.2.2.2.1.cell 0
              have z1 : wr.cell? ⟨w.heap.size + 1 + 1, 1, none⟩ = some (.int .i64 0) := D.out.1.2.2.2.1.cell 1
              have z2 : wr.cell? ⟨w.heap.size + 1 + 1, 2, none⟩ = some (.int .i64 0) := D.out.1.2.2.2.1.cell 2
              have z3 : wr.cell? ⟨w.heap.size + 1 + 1, 3, none⟩ = some (.int .i64 0) := D.out.1.2.2.2.1.cell 3
              have z4 : wr.cell? ⟨w.heap.size + 1 + 1, 4, none⟩ = some (.slice none 0 0) := D.out.1.2.2.2.1.cell 4
              have q0 := D.out.1.2.2.2.1.free 0
              have q1 := D.out.1.2.2.2.1.free 1
              have q2 := D.out.1.2.2.2.1.free 2
              have q3 := D.out.1.2.2.2.1.free 3
              have q4 := D.out.1.2.2.2.1.free 4
              have t3 : wr.cell? ⟨w.heap.size + 1, 3, none⟩ = some (.int .i64 lg) := D.out.1.2.2.1.cell 3
              have MF : Hid ((Below w.heap.size w (((((wr.setCell ⟨w.heap.size + 1 + 1, 0, none⟩ (.int .i64 (sp : Int))).setCell ⟨w.heap.size + 1 + 1, 1, none⟩ (.int .i64 at1)).setCell ⟨w.heap.size + 1 + 1, 2, none⟩ (.int .i64 nw)).setCell ⟨w.heap.size + 1 + 1, 3, none⟩ (.int .i64 lg)).setCell ⟨w.heap.size + 1 + 1, 4, none⟩ (.slice ya (nb - m) yc)) ∧ Box (((((wr.setCell ⟨w.heap.size + 1 + 1, 0, none⟩ (.int .i64 (sp : Int))).setCell ⟨w.heap.size + 1 + 1, 1, none⟩ (.int .i64 at1)).setCell ⟨w.heap.size + 1 + 1, 2, none⟩ (.int .i64 nw)).setCell ⟨w.heap.size + 1 + 1, 3, none⟩ (.int .i64 lg)).setCell ⟨w.heap.size + 1 + 1, 4, none⟩ (.slice ya (nb - m) yc)) (w.heap.size + 1 + 1) 43 #[.int .i64 (sp : Int), .int .i64 at1, .int .i64 nw, .int .i64 lg, .slice ya (nb - m) yc]) ∧ VOwn w.heap.size 79 2 (((((wr.setCell ⟨w.heap.size + 1 + 1, 0, none⟩ (.int .i64 (sp : Int))).setCell ⟨w.heap.size + 1 + 1, 1, none⟩ (.int .i64 at1)).setCell ⟨w.heap.size + 1 + 1, 2, none⟩ (.int .i64 nw)).setCell ⟨w.heap.size + 1 + 1, 3, none⟩ (.int .i64 lg)).setCell ⟨w.heap.size + 1 + 1, 4, none⟩ (.slice ya (nb - m) yc)) (.slice ya (nb - m) yc) (nb - m) (intF (bkF fp fw nb B))) := ⟨⟨(((((D.out.1.1.setCell (Nat.le_add_right _ 2) _).setCell (Nat.le_add_right _ 2) _).setCell (Nat.le_add_right _ 2) _).setCell (Nat.le_add_right _ 2) _).setCell (Nat.le_add_right _ 2) _), by
                have h9 := (((((D.out.1.2.2.2.1.set 0 (.int .i64 (sp : Int))).set 1 (.int .i64 at1)).set 2 (.int .i64 nw)).set 3 (.int .i64 lg)).set 4 (.slice ya (nb - m) yc))
                exact h9⟩, ((((((D.out.2.2.keep HHQ.out (fun _ _ => rfl)).set D.out.1.2.2.2.1 (by decide) 0 _).set (D.out.1.2.2.2.1.set 0 (.int .i64 (sp : Int))) (by decide) 1 _).set ((D.out.1.2.2.2.1.set 0 (.int .i64 (sp : Int))).set 1 (.int .i64 at1)) (by decide) 2 _).set (((D.out.1.2.2.2.1.set 0 (.int .i64 (sp : Int))).set 1 (.int .i64 at1)).set 2 (.int .i64 nw)) (by decide) 3 _).set ((((D.out.1.2.2.2.1.set 0 (.int .i64 (sp : Int))).set 1 (.int .i64 at1)).set 2 (.int .i64 nw)).set 3 (.int .i64 lg)) (by decide) 4 _)⟩
              clear D
              go_wp2_with fail
              clear o0 o1 o2 o3 o4 z0 z1 z2 z3 z4 q0 q1 q2 q3 q4 t3
              generalize (((((wr.setCell ⟨w.heap.size + 1 + 1, 0, none⟩ (.int .i64 (sp : Int))).setCell ⟨w.heap.size + 1 + 1, 1, none⟩ (.int .i64 at1)).setCell ⟨w.heap.size + 1 + 1, 2, none⟩ (.int .i64 nw)).setCell ⟨w.heap.size + 1 + 1, 3, none⟩ (.int .i64 lg)).setCell ⟨w.heap.size + 1 + 1, 4, none⟩ (.slice ya (nb - m) yc)) = W8 at MF ⊢
              have z0 : W8.cell? ⟨w.heap.size + 1 + 1, 0, none⟩ = some (.int .i64 (sp : Int)) := MF.out.1.2.cell 0
              have z1 : W8.cell? ⟨w.heap.size + 1 + 1, 1, none⟩ = some (.int .i64 at1) := MF.out.1.2.cell 1
              have z2 : W8.cell? ⟨w.heap.size + 1 + 1, 2, none⟩ = some (.int .i64 nw) := MF.out.1.2.cell 2
              have z3 : W8.cell? ⟨w.heap.size + 1 + 1, 3, none⟩ = some (.int .i64 lg) := MF.out.1.2.cell 3
              have z4 : W8.cell? ⟨w.heap.size + 1 + 1, 4, none⟩ = some (.slice ya (nb - m) yc) := MF.out.1.2.cell 4
              exact bodyPost_ret (v := .agg #[.int .i64 (sp : Int), .int .i64 at1, .int .i64 nw, .int .i64 lg, .slice ya (nb - m) yc]) (by simp [results, Tryz.results18, go_sem, z0, z1, z2, z3, z4]) rfl (td_yes HU.out (by rw [HSP.out, HAT.out, HNW.out, ← HMN.out]) (by rw [← HMN.out]; exact MF.out.2) MF.out.1.1)
            · obtain ⟨q, rfl⟩ : ∃ q, m = q + 1 := ⟨m - 1, by omega⟩
              have hx : x = lg - hvF v fp fa fw B q := by have := HM.out.1 (by omega); rwa [Nat.add_sub_cancel] at this
              have hge0 : decide (0 ≤ ((q + 1 : Nat) : Int) - 1) = true := by simp
              have hvb := hv_bnd HK.out.1 (B := B) HK.out.2.spot q (fun i hi => HK.out.2.step i (by omega))
              by_cases hxl : x < lg
              · have hq0 : (0 : Int) ≤ (q : Int) := by omega
                have hqn : (q : Int) < ((nb + 1 : Nat) : Int) := by omega
                have hqn2 : (q : Int) < (nb : Int) + 1 := by omega
                obtain ⟨xp, HXP, hxpn, hxw⟩ : ∃ p : Nat, Hid (ahP fp B q = (p : Int)) ∧ p < v.n ∧ (ahW fw B q = 1 ∨ ahW fw B q = -1) := HK.out.2.sp q (by omega)
                obtain ⟨nx, HNX0⟩ : ∃ p, Hid (-(ahW fw B q) = p) := ⟨_, rfl⟩
                have hln := HK.out.1.ln xp hxpn
                have hxp0 : (0 : Int) ≤ (xp : Int) := by omega
                have hxpi : (xp : Int) < (v.n : Int) := by omega
                have hwx : IntKind.i64.wrap (x + (v.P xp).ln) = x + (v.P xp).ln := by rw [IntKind.wrap_i64]; omega
                have HNX : Hid ((1 ≤ q → x + (v.P xp).ln = lg - hvF v fp fa fw B (q - 1)) ∧ (q = 0 → noF v fp fa fw B = 0)) := by
                  refine ⟨fun h1 => ?_, fun h1 => ?_⟩
                  · have h2 := (HK.out.2.he HK.out.1 (k := q) (by omega)).2.2.2 h1
                    have h3 : heF v fp fa fw B q = (v.P xp).ln := by
                      cases q with
                      | zero => omega
                      | succ j => rw [heF, show (B j 0) = (xp : Int) from HXP.out, Int.toNat_natCast]
                    omega
                  · subst h1
                    exact if_neg (by omega)
                have HRC : Hid ((∀ W, VOwn w.heap.size 79 2 W (.slice (some ⟨g, 0, none⟩) (nb + 1) xc) (nb + 1) (intF (afF fp fw B)) → W.cell? ⟨g, q * 2, none⟩ = some (.int .i64 (xp : Int))) ∧ (∀ W, VOwn w.heap.size 79 2 W (.slice (some ⟨g, 0, none⟩) (nb + 1) xc) (nb + 1) (intF (afF fp fw B)) → W.cell? ⟨g, q * 2 + 1, none⟩ = some (.int .i64 nx))) := by
                  refine ⟨fun W hW => ?_, fun W hW => ?_⟩
                  · have h9 : W.cell? ⟨g, q * 2, none⟩ = some (.int .i64 (ahP fp B q)) := hW.cell (i := q) (j := 0) (by omega) (by omega)
                    rw [HXP.out] at h9
                    exact h9
                  · have h9 : W.cell? ⟨g, q * 2 + 1, none⟩ = some (.int .i64 (-(ahW fw B q))) := hW.cell (i := q) (j := 1) (by omega) (by omega)
                    rw [HNX0.out] at h9
                    exact h9
                have HVS : Hid ((#[.int .i64 (xp : Int), .int .i64 nx] : Array Value).toList = (List.range 2).map (intF (bkF fp fw nb B) (nb - (q + 1)))) := by
                  have hi : nb - 1 - (nb - (q + 1)) = q := by omega
                  have e0 : bkF fp fw nb B (nb - (q + 1)) 0 = (xp : Int) := by show ahP fp B (nb - 1 - (nb - (q + 1))) = _; rw [hi]; exact HXP.out
                  have e1 : bkF fp fw nb B (nb - (q + 1)) 1 = nx := by show -(ahW fw B (nb - 1 - (nb - (q + 1)))) = _; rw [hi]; exact HNX0.out
                  show _ = _
                  simp [List.range_succ, intF, e0, e1]
                clear hx hvb hxw
                have t3 : wr.cell? ⟨w.heap.size + 1, 3, none⟩ = some (.int .i64 lg) := D.out.1.2.2.1.cell 3
                go_upto_region 15 with fail
                clear t3
                have o4 : wr.cell? ⟨ob, 4, none⟩ = some (.slice ya (nb - (q + 1)) yc) := D.out.1.2.2.2.2.cell 4
                have DD : Hid (((Below w.heap.size w wr.drew ∧ Box wr.drew (w.heap.size) 38 #[.slice (some ⟨pb, po, none⟩) v.n pc, .slice ja v.m jc] ∧ Box wr.drew (w.heap.size + 1) 43 #[.int .i64 fp, .int .i64 fa, .int .i64 fw, .int .i64 lg, .slice ba nb bk] ∧ Box wr.drew (w.heap.size + 1 + 1) 43 #[.int .i64 0, .int .i64 0, .int .i64 0, .int .i64 0, .slice none 0 0] ∧ Box wr.drew (ob) 43 #[.int .i64 (sp : Int), .int .i64 at1, .int .i64 nw, .int .i64 lg, .slice ya (nb - (q + 1)) yc]) ∧ VOwn w.heap.size 79 2 wr.drew (.slice (some ⟨g, 0, none⟩) (nb + 1) xc) (nb + 1) (intF (afF fp fw B)) ∧ VOwn Q 79 2 wr.drew (.slice ya (nb - (q + 1)) yc) (nb - (q + 1)) (intF (bkF fp fw nb B))) ∧ Q ≤ wr.drew.heap.size) := ⟨⟨⟨D.out.1.1.drew, D.out.1.2.1.drew, D.out.1.2.2.1.drew, D.out.1.2.2.2.1.drew, D.out.1.2.2.2.2.drew⟩, D.out.2⟩, HQR.out⟩
                have r0 := HRC.out.1 _ D.out.2.1
                have r1 := HRC.out.2 _ D.out.2.1
                go_wp2_with fail
                refine wp_region_held_drew (S := fun wx : World => wx.cell? ⟨g, q * 2, none⟩ = some (.int .i64 (xp : Int)) ∧ wx.cell? ⟨g, q * 2 + 1, none⟩ = some (.int .i64 nx)) (by kernel_rfl) ?_ (fun hHeld => ?_)
                · exact ⟨r0, r1⟩
                have o4d : wr.drew.cell? ⟨ob, 4, none⟩ = some (.slice ya (nb - (q + 1)) yc) := o4
                clear o4 r0 r1 D HQR
                generalize wr.drew = VD at DD hHeld o4d ⊢
                refine tk 0 ?_
                refine tk 2 ?_
                refine tk 3 ?_
                refine tk 4 ?_
                refine tk 5 ?_
                refine ready2_lit (i := 1) (j := 6) (by kernel_rfl) rfl rfl (fun K hK => ?_) (fun K hK => ?_)
                · go_simp
                  refine hK.out _ _ hHeld (fun hHeld => ?_)
                  clear hK K
                  refine rl 6 fun K hK => ?_
                  have DA : Hid (((Below w.heap.size w (VD.alloc (.cells #[.int .i64 (xp : Int), .int .i64 nx] 79)) ∧ Box (VD.alloc (.cells #[.int .i64 (xp : Int), .int .i64 nx] 79)) (w.heap.size) 38 #[.slice (some ⟨pb, po, none⟩) v.n pc, .slice ja v.m jc] ∧ Box (VD.alloc (.cells #[.int .i64 (xp : Int), .int .i64 nx] 79)) (w.heap.size + 1) 43 #[.int .i64 fp, .int .i64 fa, .int .i64 fw, .int .i64 lg, .slice ba nb bk] ∧ Box (VD.alloc (.cells #[.int .i64 (xp : Int), .int .i64 nx] 79)) (w.heap.size + 1 + 1) 43 #[.int .i64 0, .int .i64 0, .int .i64 0, .int .i64 0, .slice none 0 0] ∧ Box (VD.alloc (.cells #[.int .i64 (xp : Int), .int .i64 nx] 79)) (ob) 43 #[.int .i64 (sp : Int), .int .i64 at1, .int .i64 nw, .int .i64 lg, .slice ya (nb - (q + 1)) yc]) ∧ VOwn w.heap.size 79 2 (VD.alloc (.cells #[.int .i64 (xp : Int), .int .i64 nx] 79)) (.slice (some ⟨g, 0, none⟩) (nb + 1) xc) (nb + 1) (intF (afF fp fw B)) ∧ VOwn Q 79 2 (VD.alloc (.cells #[.int .i64 (xp : Int), .int .i64 nx] 79)) (.slice ya (nb - (q + 1)) yc) (nb - (q + 1)) (intF (bkF fp fw nb B))) ∧ Box (VD.alloc (.cells #[.int .i64 (xp : Int), .int .i64 nx] 79)) VD.heap.size 79 #[.int .i64 (xp : Int), .int .i64 nx]) := ⟨⟨⟨DD.out.1.1.1.alloc DD.out.1.1.1.size _, DD.out.1.1.2.1.alloc _, DD.out.1.1.2.2.1.alloc _, DD.out.1.1.2.2.2.1.alloc _, DD.out.1.1.2.2.2.2.alloc _⟩, DD.out.1.2.1.alloc _, DD.out.1.2.2.alloc _⟩, Box.new _ _ _⟩
                  have HQ8 : Hid (Q ≤ (VD.alloc (.cells #[.int .i64 (xp : Int), .int .i64 nx] 79)).heap.size) := by have := DD.out.2; show _ ≤ _; simp; omega
                  go_simp
                  refine hK.out _ _ ?_ (fun hHeld2 => ?_)
                  · exact ⟨HRC.out.1 _ DA.out.1.2.1, HRC.out.2 _ DA.out.1.2.1⟩
                  clear hK K hHeld2 o4d DD
                  generalize VD.alloc (.cells #[.int .i64 (xp : Int), .int .i64 nx] 79) = V7 at DA HQ8 ⊢
                  generalize VD.heap.size = bq at DA ⊢
                  refine rl 7 fun K hK => ?_
                  refine step_vapp V7 rfl _ _ 41 rfl Q 79 i0 _ 2 16 Tryz.underlying41 hi0 hz0 hs0 hb0 rfl (by decide) (.slice ya (nb - (q + 1)) yc) (nb - (q + 1)) (intF (bkF fp fw nb B)) rfl DA.out.1.2.2 (fun _ _ => rfl) bq 1 #[.int .i64 (xp : Int), .int .i64 nx] rfl DA.out.2 HVS.out (by simp only [maxLen]; omega) (by omega) HQ8.out ?_
                  intro a2 c2 w8 ho2 hg2
                  rw [show nb - (q + 1) + 1 = nb - q by omega] at ho2
                  have E8 : Hid ((Below w.heap.size w w8 ∧ Box w8 (w.heap.size) 38 #[.slice (some ⟨pb, po, none⟩) v.n pc, .slice ja v.m jc] ∧ Box w8 (w.heap.size + 1) 43 #[.int .i64 fp, .int .i64 fa, .int .i64 fw, .int .i64 lg, .slice ba nb bk] ∧ Box w8 (w.heap.size + 1 + 1) 43 #[.int .i64 0, .int .i64 0, .int .i64 0, .int .i64 0, .slice none 0 0] ∧ Box w8 (ob) 43 #[.int .i64 (sp : Int), .int .i64 at1, .int .i64 nw, .int .i64 lg, .slice ya (nb - (q + 1)) yc]) ∧ VOwn w.heap.size 79 2 w8 (.slice (some ⟨g, 0, none⟩) (nb + 1) xc) (nb + 1) (intF (afF fp fw B)) ∧ VOwn Q 79 2 w8 (.slice (some ⟨a2, 0, none⟩) (nb - q) c2) (nb - q) (intF (bkF fp fw nb B))) := ⟨⟨DA.out.1.1.1.grown hg2 DA.out.1.1.1.size (fun j hj => Nat.le_trans HHQ.out ((DA.out.1.2.2.lt hj).1)), DA.out.1.1.2.1.grown hg2 (fun e => DA.out.1.2.2.off DA.out.1.1.2.1 (by decide) e rfl), DA.out.1.1.2.2.1.grown hg2 (fun e => DA.out.1.2.2.off DA.out.1.1.2.2.1 (by decide) e rfl), DA.out.1.1.2.2.2.1.grown hg2 (fun e => DA.out.1.2.2.off DA.out.1.1.2.2.2.1 (by decide) e rfl), DA.out.1.1.2.2.2.2.grown hg2 (fun e => DA.out.1.2.2.off DA.out.1.1.2.2.2.2 (by decide) e rfl)⟩, DA.out.1.2.1.grown' hg2 (fun gg h1 h2 => by have h3 := own_block h1; have h4 := (DA.out.1.2.2.lt h2).1; have := HGQ.out; omega), ho2⟩
                  clear ho2 hg2 DA
                  simp only [Act.put, List.setIfInBounds_toArray, List.set_cons_zero, List.set_cons_succ]
                  rw [show nb - (q + 1) + 1 = nb - q by omega]
                  refine hK.out _ _ ?_ (fun hHeld => ?_)
                  · exact ⟨HRC.out.1 _ E8.out.2.1, HRC.out.2 _ E8.out.2.1⟩
                  clear hK K
                  refine tk 8 ?_
                  have o4 : w8.cell? ⟨ob, 4, none⟩ = some (.slice ya (nb - (q + 1)) yc) := E8.out.1.2.2.2.2.cell 4
                  have f4 := E8.out.1.2.2.2.2.free 4
                  have F8 : Hid ((Below w.heap.size w (w8.setCell ⟨ob, 4, none⟩ (.slice (some ⟨a2, 0, none⟩) (nb - q) c2)) ∧ Box (w8.setCell ⟨ob, 4, none⟩ (.slice (some ⟨a2, 0, none⟩) (nb - q) c2)) (w.heap.size) 38 #[.slice (some ⟨pb, po, none⟩) v.n pc, .slice ja v.m jc] ∧ Box (w8.setCell ⟨ob, 4, none⟩ (.slice (some ⟨a2, 0, none⟩) (nb - q) c2)) (w.heap.size + 1) 43 #[.int .i64 fp, .int .i64 fa, .int .i64 fw, .int .i64 lg, .slice ba nb bk] ∧ Box (w8.setCell ⟨ob, 4, none⟩ (.slice (some ⟨a2, 0, none⟩) (nb - q) c2)) (w.heap.size + 1 + 1) 43 #[.int .i64 0, .int .i64 0, .int .i64 0, .int .i64 0, .slice none 0 0] ∧ Box (w8.setCell ⟨ob, 4, none⟩ (.slice (some ⟨a2, 0, none⟩) (nb - q) c2)) (ob) 43 #[.int .i64 (sp : Int), .int .i64 at1, .int .i64 nw, .int .i64 lg, .slice (some ⟨a2, 0, none⟩) (nb - q) c2]) ∧ VOwn w.heap.size 79 2 (w8.setCell ⟨ob, 4, none⟩ (.slice (some ⟨a2, 0, none⟩) (nb - q) c2)) (.slice (some ⟨g, 0, none⟩) (nb + 1) xc) (nb + 1) (intF (afF fp fw B)) ∧ VOwn Q 79 2 (w8.setCell ⟨ob, 4, none⟩ (.slice (some ⟨a2, 0, none⟩) (nb - q) c2)) (.slice (some ⟨a2, 0, none⟩) (nb - q) c2) (nb - q) (intF (bkF fp fw nb B))) := ⟨⟨E8.out.1.1.setCell HOL.out _, E8.out.1.2.1.other e0 _, E8.out.1.2.2.1.other e1 _, E8.out.1.2.2.2.1.other e2 _, by
                    have h9 := E8.out.1.2.2.2.2.set 4 (.slice (some ⟨a2, 0, none⟩) (nb - q) c2)
                    exact h9⟩, E8.out.2.1.set E8.out.1.2.2.2.2 (by decide) 4 _, E8.out.2.2.set E8.out.1.2.2.2.2 (by decide) 4 _⟩
                  clear E8
                  refine rl 9 fun K hK => ?_
                  go_simp
                  refine hK.out _ _ ?_ (fun hHeld => ?_)
                  · exact ⟨HRC.out.1 _ F8.out.2.1, HRC.out.2 _ F8.out.2.1⟩
                  clear hK K hHeld o4 f4
                  refine wpAnyH_done (by kernel_rfl) ?_ _
                  generalize (w8.setCell ⟨ob, 4, none⟩ (.slice (some ⟨a2, 0, none⟩) (nb - q) c2)) = W7 at F8 ⊢
                  have G7 : Hid ((Below w.heap.size w W7 ∧ Box W7 (w.heap.size) 38 #[.slice (some ⟨pb, po, none⟩) v.n pc, .slice ja v.m jc] ∧ Box W7 (w.heap.size + 1) 43 #[.int .i64 fp, .int .i64 fa, .int .i64 fw, .int .i64 lg, .slice ba nb bk] ∧ Box W7 (w.heap.size + 1 + 1) 43 #[.int .i64 0, .int .i64 0, .int .i64 0, .int .i64 0, .slice none 0 0] ∧ Box W7 (ob) 43 #[.int .i64 (sp : Int), .int .i64 at1, .int .i64 nw, .int .i64 lg, .slice (some ⟨a2, 0, none⟩) (nb - q) c2]) ∧ VOwn w.heap.size 79 2 W7 (.slice (some ⟨g, 0, none⟩) (nb + 1) xc) (nb + 1) (intF (afF fp fw B)) ∧ VOwn Q 79 2 W7 (.slice (some ⟨a2, 0, none⟩) (nb - q) c2) (nb - q) (intF (bkF fp fw nb B))) := F8
                  clear F8
                  have n0 : W7.cell? ⟨w.heap.size, 0, none⟩ = some (.slice (some ⟨pb, po, none⟩) v.n pc) := G7.out.1.2.1.cell 0
                  have r0 := HRC.out.1 _ G7.out.2.1
                  have c1 : W7.cell? ⟨pb, po + xp * 4 + 1, none⟩ = some (.int .i64 (v.P xp).ln) := cell_keep G7.out.1.1 (HPC.out xp hxpn).1 (HPC.out xp hxpn).2
                  have G8 : Hid (((Below w.heap.size w W7.drew ∧ Box W7.drew (w.heap.size) 38 #[.slice (some ⟨pb, po, none⟩) v.n pc, .slice ja v.m jc] ∧ Box W7.drew (w.heap.size + 1) 43 #[.int .i64 fp, .int .i64 fa, .int .i64 fw, .int .i64 lg, .slice ba nb bk] ∧ Box W7.drew (w.heap.size + 1 + 1) 43 #[.int .i64 0, .int .i64 0, .int .i64 0, .int .i64 0, .slice none 0 0] ∧ Box W7.drew (ob) 43 #[.int .i64 (sp : Int), .int .i64 at1, .int .i64 nw, .int .i64 lg, .slice (some ⟨a2, 0, none⟩) (nb - q) c2]) ∧ VOwn w.heap.size 79 2 W7.drew (.slice (some ⟨g, 0, none⟩) (nb + 1) xc) (nb + 1) (intF (afF fp fw B)) ∧ VOwn Q 79 2 W7.drew (.slice (some ⟨a2, 0, none⟩) (nb - q) c2) (nb - q) (intF (bkF fp fw nb B))) ∧ Q ≤ W7.drew.heap.size) := ⟨⟨⟨G7.out.1.1.drew, G7.out.1.2.1.drew, G7.out.1.2.2.1.drew, G7.out.1.2.2.2.1.drew, G7.out.1.2.2.2.2.drew⟩, G7.out.2⟩, by have h := G7.out.2.2.lt (g := a2) rfl; show Q ≤ W7.heap.size; omega⟩
                  go_wp2_with fail
                  refine wp_region_held_drew (S := (fun wx : World => wx.cell? ⟨w.heap.size, 0, none⟩ = some (.slice (some ⟨pb, po, none⟩) v.n pc) ∧ wx.cell? ⟨g, q * 2, none⟩ = some (.int .i64 (xp : Int)) ∧ wx.cell? ⟨pb, po + xp * 4 + 1, none⟩ = some (.int .i64 (v.P xp).ln))) (by kernel_rfl) ?_ (fun hHeld => ?_)
                  · exact ⟨n0, r0, c1⟩
                  refine tk 0 ?_
                  refine tk 1 ?_
                  refine tk 2 ?_
                  refine tk 3 ?_
                  refine tk 4 ?_
                  refine tk 5 ?_
                  refine tk 6 ?_
                  refine tk 7 ?_
                  refine tk 8 ?_
                  refine tk 9 ?_
                  refine tk 10 ?_
                  refine tk 11 ?_
                  refine tk 12 ?_
                  refine wpAnyH_done (by kernel_rfl) ?_ _
                  clear n0 r0 c1 hHeld G7
                  generalize W7.drew = W9 at G8 ⊢
                  go_wp2_with fail
                  go_roundw
                  case rel => exact ⟨q, x + (v.P xp).ln, (some ⟨a2, 0, none⟩), c2, by omega, by go_num, rfl, HNX, G8⟩
                  case measure => simp [intOf]
                · have DA : Hid (((Below w.heap.size w (VD.alloc (.cells #[.int .i64 (xp : Int), .int .i64 nx] 79)) ∧ Box (VD.alloc (.cells #[.int .i64 (xp : Int), .int .i64 nx] 79)) (w.heap.size) 38 #[.slice (some ⟨pb, po, none⟩) v.n pc, .slice ja v.m jc] ∧ Box (VD.alloc (.cells #[.int .i64 (xp : Int), .int .i64 nx] 79)) (w.heap.size + 1) 43 #[.int .i64 fp, .int .i64 fa, .int .i64 fw, .int .i64 lg, .slice ba nb bk] ∧ Box (VD.alloc (.cells #[.int .i64 (xp : Int), .int .i64 nx] 79)) (w.heap.size + 1 + 1) 43 #[.int .i64 0, .int .i64 0, .int .i64 0, .int .i64 0, .slice none 0 0] ∧ Box (VD.alloc (.cells #[.int .i64 (xp : Int), .int .i64 nx] 79)) (ob) 43 #[.int .i64 (sp : Int), .int .i64 at1, .int .i64 nw, .int .i64 lg, .slice ya (nb - (q + 1)) yc]) ∧ VOwn w.heap.size 79 2 (VD.alloc (.cells #[.int .i64 (xp : Int), .int .i64 nx] 79)) (.slice (some ⟨g, 0, none⟩) (nb + 1) xc) (nb + 1) (intF (afF fp fw B)) ∧ VOwn Q 79 2 (VD.alloc (.cells #[.int .i64 (xp : Int), .int .i64 nx] 79)) (.slice ya (nb - (q + 1)) yc) (nb - (q + 1)) (intF (bkF fp fw nb B))) ∧ Box (VD.alloc (.cells #[.int .i64 (xp : Int), .int .i64 nx] 79)) VD.heap.size 79 #[.int .i64 (xp : Int), .int .i64 nx]) := ⟨⟨⟨DD.out.1.1.1.alloc DD.out.1.1.1.size _, DD.out.1.1.2.1.alloc _, DD.out.1.1.2.2.1.alloc _, DD.out.1.1.2.2.2.1.alloc _, DD.out.1.1.2.2.2.2.alloc _⟩, DD.out.1.2.1.alloc _, DD.out.1.2.2.alloc _⟩, Box.new _ _ _⟩
                  have HQ8 : Hid (Q ≤ (VD.alloc (.cells #[.int .i64 (xp : Int), .int .i64 nx] 79)).heap.size) := by have := DD.out.2; show _ ≤ _; simp; omega
                  go_simp
                  refine hK.out _ _ ?_ (fun hHeld2 => ?_)
                  · exact ⟨HRC.out.1 _ DA.out.1.2.1, HRC.out.2 _ DA.out.1.2.1⟩
                  clear hK K o4d DD
                  generalize VD.alloc (.cells #[.int .i64 (xp : Int), .int .i64 nx] 79) = V7 at DA HQ8 hHeld2 ⊢
                  generalize VD.heap.size = bq at DA ⊢
                  have o4 : V7.cell? ⟨ob, 4, none⟩ = some (.slice ya (nb - (q + 1)) yc) := DA.out.1.1.2.2.2.2.cell 4
                  refine rl 1 fun K hK => ?_
                  go_simp
                  refine hK.out _ _ hHeld2 (fun hHeld3 => ?_)
                  clear hK K o4 hHeld2
                  refine rl 7 fun K hK => ?_
                  refine step_vapp V7 rfl _ _ 41 rfl Q 79 i0 _ 2 16 Tryz.underlying41 hi0 hz0 hs0 hb0 rfl (by decide) (.slice ya (nb - (q + 1)) yc) (nb - (q + 1)) (intF (bkF fp fw nb B)) rfl DA.out.1.2.2 (fun _ _ => rfl) bq 1 #[.int .i64 (xp : Int), .int .i64 nx] rfl DA.out.2 HVS.out (by simp only [maxLen]; omega) (by omega) HQ8.out ?_
                  intro a2 c2 w8 ho2 hg2
                  rw [show nb - (q + 1) + 1 = nb - q by omega] at ho2
                  have E8 : Hid ((Below w.heap.size w w8 ∧ Box w8 (w.heap.size) 38 #[.slice (some ⟨pb, po, none⟩) v.n pc, .slice ja v.m jc] ∧ Box w8 (w.heap.size + 1) 43 #[.int .i64 fp, .int .i64 fa, .int .i64 fw, .int .i64 lg, .slice ba nb bk] ∧ Box w8 (w.heap.size + 1 + 1) 43 #[.int .i64 0, .int .i64 0, .int .i64 0, .int .i64 0, .slice none 0 0] ∧ Box w8 (ob) 43 #[.int .i64 (sp : Int), .int .i64 at1, .int .i64 nw, .int .i64 lg, .slice ya (nb - (q + 1)) yc]) ∧ VOwn w.heap.size 79 2 w8 (.slice (some ⟨g, 0, none⟩) (nb + 1) xc) (nb + 1) (intF (afF fp fw B)) ∧ VOwn Q 79 2 w8 (.slice (some ⟨a2, 0, none⟩) (nb - q) c2) (nb - q) (intF (bkF fp fw nb B))) := ⟨⟨DA.out.1.1.1.grown hg2 DA.out.1.1.1.size (fun j hj => Nat.le_trans HHQ.out ((DA.out.1.2.2.lt hj).1)), DA.out.1.1.2.1.grown hg2 (fun e => DA.out.1.2.2.off DA.out.1.1.2.1 (by decide) e rfl), DA.out.1.1.2.2.1.grown hg2 (fun e => DA.out.1.2.2.off DA.out.1.1.2.2.1 (by decide) e rfl), DA.out.1.1.2.2.2.1.grown hg2 (fun e => DA.out.1.2.2.off DA.out.1.1.2.2.2.1 (by decide) e rfl), DA.out.1.1.2.2.2.2.grown hg2 (fun e => DA.out.1.2.2.off DA.out.1.1.2.2.2.2 (by decide) e rfl)⟩, DA.out.1.2.1.grown' hg2 (fun gg h1 h2 => by have h3 := own_block h1; have h4 := (DA.out.1.2.2.lt h2).1; have := HGQ.out; omega), ho2⟩
                  clear ho2 hg2 DA
                  simp only [Act.put, List.setIfInBounds_toArray, List.set_cons_zero, List.set_cons_succ]
                  rw [show nb - (q + 1) + 1 = nb - q by omega]
                  refine hK.out _ _ ?_ (fun hHeld => ?_)
                  · exact ⟨HRC.out.1 _ E8.out.2.1, HRC.out.2 _ E8.out.2.1⟩
                  clear hK K
                  refine tk 8 ?_
                  have o4 : w8.cell? ⟨ob, 4, none⟩ = some (.slice ya (nb - (q + 1)) yc) := E8.out.1.2.2.2.2.cell 4
                  have f4 := E8.out.1.2.2.2.2.free 4
                  have F8 : Hid ((Below w.heap.size w (w8.setCell ⟨ob, 4, none⟩ (.slice (some ⟨a2, 0, none⟩) (nb - q) c2)) ∧ Box (w8.setCell ⟨ob, 4, none⟩ (.slice (some ⟨a2, 0, none⟩) (nb - q) c2)) (w.heap.size) 38 #[.slice (some ⟨pb, po, none⟩) v.n pc, .slice ja v.m jc] ∧ Box (w8.setCell ⟨ob, 4, none⟩ (.slice (some ⟨a2, 0, none⟩) (nb - q) c2)) (w.heap.size + 1) 43 #[.int .i64 fp, .int .i64 fa, .int .i64 fw, .int .i64 lg, .slice ba nb bk] ∧ Box (w8.setCell ⟨ob, 4, none⟩ (.slice (some ⟨a2, 0, none⟩) (nb - q) c2)) (w.heap.size + 1 + 1) 43 #[.int .i64 0, .int .i64 0, .int .i64 0, .int .i64 0, .slice none 0 0] ∧ Box (w8.setCell ⟨ob, 4, none⟩ (.slice (some ⟨a2, 0, none⟩) (nb - q) c2)) (ob) 43 #[.int .i64 (sp : Int), .int .i64 at1, .int .i64 nw, .int .i64 lg, .slice (some ⟨a2, 0, none⟩) (nb - q) c2]) ∧ VOwn w.heap.size 79 2 (w8.setCell ⟨ob, 4, none⟩ (.slice (some ⟨a2, 0, none⟩) (nb - q) c2)) (.slice (some ⟨g, 0, none⟩) (nb + 1) xc) (nb + 1) (intF (afF fp fw B)) ∧ VOwn Q 79 2 (w8.setCell ⟨ob, 4, none⟩ (.slice (some ⟨a2, 0, none⟩) (nb - q) c2)) (.slice (some ⟨a2, 0, none⟩) (nb - q) c2) (nb - q) (intF (bkF fp fw nb B))) := ⟨⟨E8.out.1.1.setCell HOL.out _, E8.out.1.2.1.other e0 _, E8.out.1.2.2.1.other e1 _, E8.out.1.2.2.2.1.other e2 _, by
                    have h9 := E8.out.1.2.2.2.2.set 4 (.slice (some ⟨a2, 0, none⟩) (nb - q) c2)
                    exact h9⟩, E8.out.2.1.set E8.out.1.2.2.2.2 (by decide) 4 _, E8.out.2.2.set E8.out.1.2.2.2.2 (by decide) 4 _⟩
                  clear E8
                  refine rl 9 fun K hK => ?_
                  go_simp
                  refine hK.out _ _ ?_ (fun hHeld => ?_)
                  · exact ⟨HRC.out.1 _ F8.out.2.1, HRC.out.2 _ F8.out.2.1⟩
                  clear hK K hHeld o4 f4
                  refine wpAnyH_done (by kernel_rfl) ?_ _
                  generalize (w8.setCell ⟨ob, 4, none⟩ (.slice (some ⟨a2, 0, none⟩) (nb - q) c2)) = W7 at F8 ⊢
                  have G7 : Hid ((Below w.heap.size w W7 ∧ Box W7 (w.heap.size) 38 #[.slice (some ⟨pb, po, none⟩) v.n pc, .slice ja v.m jc] ∧ Box W7 (w.heap.size + 1) 43 #[.int .i64 fp, .int .i64 fa, .int .i64 fw, .int .i64 lg, .slice ba nb bk] ∧ Box W7 (w.heap.size + 1 + 1) 43 #[.int .i64 0, .int .i64 0, .int .i64 0, .int .i64 0, .slice none 0 0] ∧ Box W7 (ob) 43 #[.int .i64 (sp : Int), .int .i64 at1, .int .i64 nw, .int .i64 lg, .slice (some ⟨a2, 0, none⟩) (nb - q) c2]) ∧ VOwn w.heap.size 79 2 W7 (.slice (some ⟨g, 0, none⟩) (nb + 1) xc) (nb + 1) (intF (afF fp fw B)) ∧ VOwn Q 79 2 W7 (.slice (some ⟨a2, 0, none⟩) (nb - q) c2) (nb - q) (intF (bkF fp fw nb B))) := F8
                  clear F8
                  have n0 : W7.cell? ⟨w.heap.size, 0, none⟩ = some (.slice (some ⟨pb, po, none⟩) v.n pc) := G7.out.1.2.1.cell 0
                  have r0 := HRC.out.1 _ G7.out.2.1
                  have c1 : W7.cell? ⟨pb, po + xp * 4 + 1, none⟩ = some (.int .i64 (v.P xp).ln) := cell_keep G7.out.1.1 (HPC.out xp hxpn).1 (HPC.out xp hxpn).2
                  have G8 : Hid (((Below w.heap.size w W7.drew ∧ Box W7.drew (w.heap.size) 38 #[.slice (some ⟨pb, po, none⟩) v.n pc, .slice ja v.m jc] ∧ Box W7.drew (w.heap.size + 1) 43 #[.int .i64 fp, .int .i64 fa, .int .i64 fw, .int .i64 lg, .slice ba nb bk] ∧ Box W7.drew (w.heap.size + 1 + 1) 43 #[.int .i64 0, .int .i64 0, .int .i64 0, .int .i64 0, .slice none 0 0] ∧ Box W7.drew (ob) 43 #[.int .i64 (sp : Int), .int .i64 at1, .int .i64 nw, .int .i64 lg, .slice (some ⟨a2, 0, none⟩) (nb - q) c2]) ∧ VOwn w.heap.size 79 2 W7.drew (.slice (some ⟨g, 0, none⟩) (nb + 1) xc) (nb + 1) (intF (afF fp fw B)) ∧ VOwn Q 79 2 W7.drew (.slice (some ⟨a2, 0, none⟩) (nb - q) c2) (nb - q) (intF (bkF fp fw nb B))) ∧ Q ≤ W7.drew.heap.size) := ⟨⟨⟨G7.out.1.1.drew, G7.out.1.2.1.drew, G7.out.1.2.2.1.drew, G7.out.1.2.2.2.1.drew, G7.out.1.2.2.2.2.drew⟩, G7.out.2⟩, by have h := G7.out.2.2.lt (g := a2) rfl; show Q ≤ W7.heap.size; omega⟩
                  go_wp2_with fail
                  refine wp_region_held_drew (S := (fun wx : World => wx.cell? ⟨w.heap.size, 0, none⟩ = some (.slice (some ⟨pb, po, none⟩) v.n pc) ∧ wx.cell? ⟨g, q * 2, none⟩ = some (.int .i64 (xp : Int)) ∧ wx.cell? ⟨pb, po + xp * 4 + 1, none⟩ = some (.int .i64 (v.P xp).ln))) (by kernel_rfl) ?_ (fun hHeld => ?_)
                  · exact ⟨n0, r0, c1⟩
                  refine tk 0 ?_
                  refine tk 1 ?_
                  refine tk 2 ?_
                  refine tk 3 ?_
                  refine tk 4 ?_
                  refine tk 5 ?_
                  refine tk 6 ?_
                  refine tk 7 ?_
                  refine tk 8 ?_
                  refine tk 9 ?_
                  refine tk 10 ?_
                  refine tk 11 ?_
                  refine tk 12 ?_
                  refine wpAnyH_done (by kernel_rfl) ?_ _
                  clear n0 r0 c1 hHeld G7
                  generalize W7.drew = W9 at G8 ⊢
                  go_wp2_with fail
                  go_roundw
                  case rel => exact ⟨q, x + (v.P xp).ln, (some ⟨a2, 0, none⟩), c2, by omega, by go_num, rfl, HNX, G8⟩
                  case measure => simp [intOf]
              · have hlt1 : decide (x < lg) = false := by simpa using hxl
                have hq0 : q = 0 := by
                  by_cases c : q = 0
                  · exact c
                  · have h2 := (HK.out.2.he HK.out.1 (k := q) (by omega)).2.2
                    have h3 := hv_bnd HK.out.1 (B := B) HK.out.2.spot (q - 1) (fun i hi => HK.out.2.step i (by omega))
                    have h4 := h2.1 (by omega)
                    have h5 := h2.2 (by omega)
                    omega
                obtain ⟨m, HMM⟩ : ∃ m, Hid (q + 1 = m ∧ nb - m = nb - noF v fp fa fw B) := ⟨q + 1, rfl, by
                  subst hq0
                  have : noF v fp fa fw B = 1 := if_pos (by have := hvb.1; omega)
                  omega⟩
                have HMN : Hid (nb - m = nb - noF v fp fa fw B) := HMM.out.2
                clear hq0 hx hvb hxl HM
                obtain rfl : m = q + 1 := HMM.out.1.symm
                have o0 : wr.cell? ⟨ob, 0, none⟩ = some (.int .i64 (sp : Int)) := D.out.1.2.2.2.2.cell 0
                have o1 : wr.cell? ⟨ob, 1, none⟩ = some (.int .i64 at1) := D.out.1.2.2.2.2.cell 1
                have o2 : wr.cell? ⟨ob, 2, none⟩ = some (.int .i64 nw) := D.out.1.2.2.2.2.cell 2
                have o3 : wr.cell? ⟨ob, 3, none⟩ = some (.int .i64 lg) := D.out.1.2.2.2.2.cell 3
                have o4 : wr.cell? ⟨ob, 4, none⟩ = some (.slice ya (nb - (q + 1)) yc) := D.out.1.2.2.2.2.cell 4
                have z0 : wr.cell? ⟨w.heap.size + 1 + 1, 0, none⟩ = some (.int .i64 0) := D.out.1.2.2.2.1.cell 0
                have z1 : wr.cell? ⟨w.heap.size + 1 + 1, 1, none⟩ = some (.int .i64 0) := D.out.1.2.2.2.1.cell 1
                have z2 : wr.cell? ⟨w.heap.size + 1 + 1, 2, none⟩ = some (.int .i64 0) := D.out.1.2.2.2.1.cell 2
                have z3 : wr.cell? ⟨w.heap.size + 1 + 1, 3, none⟩ = some (.int .i64 0) := D.out.1.2.2.2.1.cell 3
                have z4 : wr.cell? ⟨w.heap.size + 1 + 1, 4, none⟩ = some (.slice none 0 0) := D.out.1.2.2.2.1.cell 4
                have q0 := D.out.1.2.2.2.1.free 0
                have q1 := D.out.1.2.2.2.1.free 1
                have q2 := D.out.1.2.2.2.1.free 2
                have q3 := D.out.1.2.2.2.1.free 3
                have q4 := D.out.1.2.2.2.1.free 4
                have t3 : wr.cell? ⟨w.heap.size + 1, 3, none⟩ = some (.int .i64 lg) := D.out.1.2.2.1.cell 3
                have MF : Hid ((Below w.heap.size w (((((wr.setCell ⟨w.heap.size + 1 + 1, 0, none⟩ (.int .i64 (sp : Int))).setCell ⟨w.heap.size + 1 + 1, 1, none⟩ (.int .i64 at1)).setCell ⟨w.heap.size + 1 + 1, 2, none⟩ (.int .i64 nw)).setCell ⟨w.heap.size + 1 + 1, 3, none⟩ (.int .i64 lg)).setCell ⟨w.heap.size + 1 + 1, 4, none⟩ (.slice ya (nb - (q + 1)) yc)) ∧ Box (((((wr.setCell ⟨w.heap.size + 1 + 1, 0, none⟩ (.int .i64 (sp : Int))).setCell ⟨w.heap.size + 1 + 1, 1, none⟩ (.int .i64 at1)).setCell ⟨w.heap.size + 1 + 1, 2, none⟩ (.int .i64 nw)).setCell ⟨w.heap.size + 1 + 1, 3, none⟩ (.int .i64 lg)).setCell ⟨w.heap.size + 1 + 1, 4, none⟩ (.slice ya (nb - (q + 1)) yc)) (w.heap.size + 1 + 1) 43 #[.int .i64 (sp : Int), .int .i64 at1, .int .i64 nw, .int .i64 lg, .slice ya (nb - (q + 1)) yc]) ∧ VOwn w.heap.size 79 2 (((((wr.setCell ⟨w.heap.size + 1 + 1, 0, none⟩ (.int .i64 (sp : Int))).setCell ⟨w.heap.size + 1 + 1, 1, none⟩ (.int .i64 at1)).setCell ⟨w.heap.size + 1 + 1, 2, none⟩ (.int .i64 nw)).setCell ⟨w.heap.size + 1 + 1, 3, none⟩ (.int .i64 lg)).setCell ⟨w.heap.size + 1 + 1, 4, none⟩ (.slice ya (nb - (q + 1)) yc)) (.slice ya (nb - (q + 1)) yc) (nb - (q + 1)) (intF (bkF fp fw nb B))) := ⟨⟨(((((D.out.1.1.setCell (Nat.le_add_right _ 2) _).setCell (Nat.le_add_right _ 2) _).setCell (Nat.le_add_right _ 2) _).setCell (Nat.le_add_right _ 2) _).setCell (Nat.le_add_right _ 2) _), by
                  have h9 := (((((D.out.1.2.2.2.1.set 0 (.int .i64 (sp : Int))).set 1 (.int .i64 at1)).set 2 (.int .i64 nw)).set 3 (.int .i64 lg)).set 4 (.slice ya (nb - (q + 1)) yc))
                  exact h9⟩, ((((((D.out.2.2.keep HHQ.out (fun _ _ => rfl)).set D.out.1.2.2.2.1 (by decide) 0 _).set (D.out.1.2.2.2.1.set 0 (.int .i64 (sp : Int))) (by decide) 1 _).set ((D.out.1.2.2.2.1.set 0 (.int .i64 (sp : Int))).set 1 (.int .i64 at1)) (by decide) 2 _).set (((D.out.1.2.2.2.1.set 0 (.int .i64 (sp : Int))).set 1 (.int .i64 at1)).set 2 (.int .i64 nw)) (by decide) 3 _).set ((((D.out.1.2.2.2.1.set 0 (.int .i64 (sp : Int))).set 1 (.int .i64 at1)).set 2 (.int .i64 nw)).set 3 (.int .i64 lg)) (by decide) 4 _)⟩
                clear D
                go_wp2_with fail
                clear o0 o1 o2 o3 o4 z0 z1 z2 z3 z4 q0 q1 q2 q3 q4 t3
                generalize (((((wr.setCell ⟨w.heap.size + 1 + 1, 0, none⟩ (.int .i64 (sp : Int))).setCell ⟨w.heap.size + 1 + 1, 1, none⟩ (.int .i64 at1)).setCell ⟨w.heap.size + 1 + 1, 2, none⟩ (.int .i64 nw)).setCell ⟨w.heap.size + 1 + 1, 3, none⟩ (.int .i64 lg)).setCell ⟨w.heap.size + 1 + 1, 4, none⟩ (.slice ya (nb - (q + 1)) yc)) = W8 at MF ⊢
                have z0 : W8.cell? ⟨w.heap.size + 1 + 1, 0, none⟩ = some (.int .i64 (sp : Int)) := MF.out.1.2.cell 0
                have z1 : W8.cell? ⟨w.heap.size + 1 + 1, 1, none⟩ = some (.int .i64 at1) := MF.out.1.2.cell 1
                have z2 : W8.cell? ⟨w.heap.size + 1 + 1, 2, none⟩ = some (.int .i64 nw) := MF.out.1.2.cell 2
                have z3 : W8.cell? ⟨w.heap.size + 1 + 1, 3, none⟩ = some (.int .i64 lg) := MF.out.1.2.cell 3
                have z4 : W8.cell? ⟨w.heap.size + 1 + 1, 4, none⟩ = some (.slice ya (nb - (q + 1)) yc) := MF.out.1.2.cell 4
                exact bodyPost_ret (v := .agg #[.int .i64 (sp : Int), .int .i64 at1, .int .i64 nw, .int .i64 lg, .slice ya (nb - (q + 1)) yc]) (by simp [results, Tryz.results18, go_sem, z0, z1, z2, z3, z4]) rfl (td_yes HU.out (by rw [HSP.out, HAT.out, HNW.out, ← HMN.out]) (by rw [← HMN.out]; exact MF.out.2) MF.out.1.1)

end Go.Proofs.YtoennemahlakeaaGreat
