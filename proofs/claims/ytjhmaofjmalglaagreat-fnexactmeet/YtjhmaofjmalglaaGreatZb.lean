import Derived.Test.YtjhmaofjmalglaaGreatZa
namespace Go.Proofs.YtjhmaofjmalglaaGreat
open Go.RowKit Go.Lib

theorem lf_next {v : Nv} {fp fa fw lg : Int} {nb : Nat} {B : Nat → Nat → Int} (h : Trn v fp fa fw lg nb B) {k : Nat} (hk : k ≤ nb) : (lfF v fp fa fw lg nb B (k + 1) = 0 → k = nb) ∧ (lfF v fp fa fw lg nb B (k + 1) ≠ 0 → k < nb) := by
  have hn : lfF v fp fa fw lg nb B (k + 1) = if k < nb then lg - hvF v fp fa fw B k else 0 := by
    unfold lfF
    rw [if_neg (by omega), Nat.add_sub_cancel]
    by_cases c : k < nb
    · rw [if_pos (by omega), if_pos c]
    · rw [if_neg (by omega), if_neg c]
  rw [hn]
  by_cases c : k < nb
  · rw [if_pos c]
    have := h.lt k c
    exact ⟨fun h => absurd h (by omega), fun _ => c⟩
  · rw [if_neg c]
    exact ⟨fun _ => by omega, fun h => absurd rfl h⟩
theorem app3c {w W w6 : World} {vo v2 : Value} {n a b c T1 T2 T3 : Nat} {x1 x2 x3 : Array Value} {G : Nat → Nat → Value} {o : Obj} (hb : Below w.heap.size w W) (b1 : Box W a T1 x1) (b2 : Box W b T2 x2) (b3 : Box W c T3 x3) (ho : VOwn w.heap.size 112 3 W vo n G) (h1 : T1 ≠ 112) (h2' : T2 ≠ 112) (h3 : T3 ≠ 112) (h2 : VOwn w.heap.size 112 3 w6 v2 (n + 1) G) (hg : (W.alloc o).grownBy w6 vo.ownBlock) :
    (Below w.heap.size w w6 ∧ Box w6 a T1 x1 ∧ Box w6 b T2 x2 ∧ Box w6 c T3 x3) ∧ VOwn w.heap.size 112 3 w6 v2 (n + 1) G :=
  ⟨⟨(hb.alloc hb.size o).grown hg (hb.alloc hb.size o).size (fun _ hj => (ho.lt hj).1), (b1.alloc o).grown hg (fun e => (ho.alloc o).off (b1.alloc o) h1 e rfl), (b2.alloc o).grown hg (fun e => (ho.alloc o).off (b2.alloc o) h2' e rfl), (b3.alloc o).grown hg (fun e => (ho.alloc o).off (b3.alloc o) h3 e rfl)⟩, h2⟩
set_option maxRecDepth 100000 in
set_option maxHeartbeats 4000000 in
theorem part49 {v : Nv} (ok : v.Ok) (pa : Option Addr) (pc : Nat) (ja : Option Addr) (jc : Nat) (sp : Nat) (wy a b : Int) (w : World) (hspn : sp < v.n) (hw : wy = 1 ∨ wy = -1) (ha : 0 ≤ a ∧ a ≤ 10000000) (hb0 : 0 ≤ b ∧ b ≤ 10000000) (hP : PsAt 0 w pa v.n v.P) :
    Calls Tryz.prog 99 #[.agg #[.slice pa v.n pc, .slice ja v.m jc], .int .i64 (sp : Int), .int .i64 wy, .int .i64 a, .int .i64 b] w fun e w' => e = .returned (.agg #[.int .i64 (sp : Int), .int .i64 (pfA (v.P sp).ln wy a b), .int .i64 (pfB (v.P sp).ln wy a b)]) ∧ Below w.heap.size w w' := by
  obtain ⟨pb, po, rfl, _, hb, hc⟩ := hP (by omega)
  have HC1 : Hid (pb < w.heap.size ∧ w.cell? ⟨pb, po + sp * 4 + 1, none⟩ = some (.int .i64 (v.P sp).ln)) := ⟨hb, (hc sp hspn).2.1⟩
  have hpi : (sp : Int) < (v.n : Int) := by omega
  have hp0 : (0 : Int) ≤ (sp : Int) := by omega
  have hl := ok.ln sp hspn
  have hn := ok.n1
  have hwa : IntKind.i64.wrap ((v.P sp).ln - a) = (v.P sp).ln - a := by rw [IntKind.wrap_i64]; omega
  have hwb : IntKind.i64.wrap ((v.P sp).ln - b) = (v.P sp).ln - b := by rw [IntKind.wrap_i64]; omega
  have S0 : Hid (Below w.heap.size w ((w.alloc (.cells #[.slice (some ⟨pb, po, none⟩) v.n pc, .slice ja v.m jc] 40)).alloc (.cells #[.int .i64 0, .int .i64 0, .int .i64 0] 112)) ∧ Box ((w.alloc (.cells #[.slice (some ⟨pb, po, none⟩) v.n pc, .slice ja v.m jc] 40)).alloc (.cells #[.int .i64 0, .int .i64 0, .int .i64 0] 112)) (w.heap.size) 40 #[.slice (some ⟨pb, po, none⟩) v.n pc, .slice ja v.m jc] ∧ Box ((w.alloc (.cells #[.slice (some ⟨pb, po, none⟩) v.n pc, .slice ja v.m jc] 40)).alloc (.cells #[.int .i64 0, .int .i64 0, .int .i64 0] 112)) (w.heap.size + 1) 112 #[.int .i64 0, .int .i64 0, .int .i64 0]) := ⟨bel2 _ _ _, (Box.new _ _ _).alloc _, by have := Box.new (w.alloc (.cells #[.slice (some ⟨pb, po, none⟩) v.n pc, .slice ja v.m jc] 40)) 112 #[.int .i64 0, .int .i64 0, .int .i64 0]; simpa using this⟩
  clear hc hP ok hb
  rcases hw with rfl | rfl
  · go_enter Tryz.func99, Tryz.ntmps99
    go_upto_region 1 with fail
    generalize ((w.alloc (.cells #[.slice (some ⟨pb, po, none⟩) v.n pc, .slice ja v.m jc] 40)).alloc (.cells #[.int .i64 0, .int .i64 0, .int .i64 0] 112)) = V0 at S0 ⊢
    have z0 : V0.cell? ⟨w.heap.size + 1, 0, none⟩ = some (.int .i64 0) := S0.out.2.2.cell 0
    have z1 : V0.cell? ⟨w.heap.size + 1, 1, none⟩ = some (.int .i64 0) := S0.out.2.2.cell 1
    have z2 : V0.cell? ⟨w.heap.size + 1, 2, none⟩ = some (.int .i64 0) := S0.out.2.2.cell 2
    have q0 := S0.out.2.2.free 0
    have q1 := S0.out.2.2.free 1
    have q2 := S0.out.2.2.free 2
    have MF : Hid (Below w.heap.size w (((V0.setCell ⟨w.heap.size + 1, 0, none⟩ (.int .i64 (sp : Int))).setCell ⟨w.heap.size + 1, 1, none⟩ (.int .i64 a)).setCell ⟨w.heap.size + 1, 2, none⟩ (.int .i64 b)) ∧ Box (((V0.setCell ⟨w.heap.size + 1, 0, none⟩ (.int .i64 (sp : Int))).setCell ⟨w.heap.size + 1, 1, none⟩ (.int .i64 a)).setCell ⟨w.heap.size + 1, 2, none⟩ (.int .i64 b)) (w.heap.size + 1) 112 #[.int .i64 (sp : Int), .int .i64 a, .int .i64 b]) := ⟨(((S0.out.1.setCell (Nat.le_add_right _ 1) _).setCell (Nat.le_add_right _ 1) _).setCell (Nat.le_add_right _ 1) _), (((S0.out.2.2.set 0 (.int .i64 (sp : Int))).set 1 (.int .i64 a)).set 2 (.int .i64 b))⟩
    clear S0
    go_wp2_with fail
    clear z0 z1 z2 q0 q1 q2
    generalize (((V0.setCell ⟨w.heap.size + 1, 0, none⟩ (.int .i64 (sp : Int))).setCell ⟨w.heap.size + 1, 1, none⟩ (.int .i64 a)).setCell ⟨w.heap.size + 1, 2, none⟩ (.int .i64 b)) = W9 at MF ⊢
    have z0 : W9.cell? ⟨w.heap.size + 1, 0, none⟩ = some (.int .i64 (sp : Int)) := MF.out.2.cell 0
    have z1 : W9.cell? ⟨w.heap.size + 1, 1, none⟩ = some (.int .i64 a) := MF.out.2.cell 1
    have z2 : W9.cell? ⟨w.heap.size + 1, 2, none⟩ = some (.int .i64 b) := MF.out.2.cell 2
    exact bodyPost_ret (v := .agg #[.int .i64 (sp : Int), .int .i64 a, .int .i64 b]) (by simp [results, Tryz.results99, go_sem, z0, z1, z2]) rfl ⟨rfl, MF.out.1⟩
  · go_enter Tryz.func99, Tryz.ntmps99
    go_upto_region 1 with fail
    generalize ((w.alloc (.cells #[.slice (some ⟨pb, po, none⟩) v.n pc, .slice ja v.m jc] 40)).alloc (.cells #[.int .i64 0, .int .i64 0, .int .i64 0] 112)) = V0 at S0 ⊢
    have n0 : V0.cell? ⟨w.heap.size, 0, none⟩ = some (.slice (some ⟨pb, po, none⟩) v.n pc) := S0.out.2.1.cell 0
    have c1 : V0.cell? ⟨pb, po + sp * 4 + 1, none⟩ = some (.int .i64 (v.P sp).ln) := cell_keep S0.out.1 HC1.out.1 HC1.out.2
    go_upto_region 5 with fail
    clear n0 c1
    have z0 : V0.cell? ⟨w.heap.size + 1, 0, none⟩ = some (.int .i64 0) := S0.out.2.2.cell 0
    have z1 : V0.cell? ⟨w.heap.size + 1, 1, none⟩ = some (.int .i64 0) := S0.out.2.2.cell 1
    have z2 : V0.cell? ⟨w.heap.size + 1, 2, none⟩ = some (.int .i64 0) := S0.out.2.2.cell 2
    have q0 := S0.out.2.2.free 0
    have q1 := S0.out.2.2.free 1
    have q2 := S0.out.2.2.free 2
    have MF : Hid (Below w.heap.size w (((V0.setCell ⟨w.heap.size + 1, 0, none⟩ (.int .i64 (sp : Int))).setCell ⟨w.heap.size + 1, 1, none⟩ (.int .i64 ((v.P sp).ln - b))).setCell ⟨w.heap.size + 1, 2, none⟩ (.int .i64 ((v.P sp).ln - a))) ∧ Box (((V0.setCell ⟨w.heap.size + 1, 0, none⟩ (.int .i64 (sp : Int))).setCell ⟨w.heap.size + 1, 1, none⟩ (.int .i64 ((v.P sp).ln - b))).setCell ⟨w.heap.size + 1, 2, none⟩ (.int .i64 ((v.P sp).ln - a))) (w.heap.size + 1) 112 #[.int .i64 (sp : Int), .int .i64 ((v.P sp).ln - b), .int .i64 ((v.P sp).ln - a)]) := ⟨(((S0.out.1.setCell (Nat.le_add_right _ 1) _).setCell (Nat.le_add_right _ 1) _).setCell (Nat.le_add_right _ 1) _), (((S0.out.2.2.set 0 (.int .i64 (sp : Int))).set 1 (.int .i64 ((v.P sp).ln - b))).set 2 (.int .i64 ((v.P sp).ln - a)))⟩
    clear S0
    go_wp2_with fail
    clear z0 z1 z2 q0 q1 q2
    generalize (((V0.setCell ⟨w.heap.size + 1, 0, none⟩ (.int .i64 (sp : Int))).setCell ⟨w.heap.size + 1, 1, none⟩ (.int .i64 ((v.P sp).ln - b))).setCell ⟨w.heap.size + 1, 2, none⟩ (.int .i64 ((v.P sp).ln - a))) = W9 at MF ⊢
    have z0 : W9.cell? ⟨w.heap.size + 1, 0, none⟩ = some (.int .i64 (sp : Int)) := MF.out.2.cell 0
    have z1 : W9.cell? ⟨w.heap.size + 1, 1, none⟩ = some (.int .i64 ((v.P sp).ln - b)) := MF.out.2.cell 1
    have z2 : W9.cell? ⟨w.heap.size + 1, 2, none⟩ = some (.int .i64 ((v.P sp).ln - a)) := MF.out.2.cell 2
    exact bodyPost_ret (v := .agg #[.int .i64 (sp : Int), .int .i64 ((v.P sp).ln - b), .int .i64 ((v.P sp).ln - a)]) (by simp [results, Tryz.results99, go_sem, z0, z1, z2]) rfl ⟨rfl, MF.out.1⟩
set_option maxRecDepth 100000 in
set_option maxHeartbeats 16000000 in
theorem body25 {v : Nv} (ok : v.Ok) (pa : Option Addr) (pc : Nat) (ja : Option Addr) (jc : Nat) (fp fa fw lg : Int) (nb : Nat) (B : Nat → Nat → Int) (ba : Option Addr) (bk : Nat) (w : World) (hP : PsAt 0 w pa v.n v.P) (ht : Trn v fp fa fw lg nb B) (hB : NsAt 2 0 w ba nb B) :
    Calls Tryz.prog 58 #[.agg #[.slice pa v.n pc, .slice ja v.m jc], .agg #[.int .i64 fp, .int .i64 fa, .int .i64 fw, .int .i64 lg, .slice ba nb bk]] w fun e w' => ∃ a c, e = .returned (.slice a (nb + 1 - noF v fp fa fw B) c) ∧ VOwn w.heap.size 112 3 w' (.slice a (nb + 1 - noF v fp fa fw B) c) (nb + 1 - noF v fp fa fw B) (intF (prF v (stG v fp fa fw lg nb B))) ∧ Below w.heap.size w w' := by
  have H : Hid (v.Ok ∧ Trn v fp fa fw lg nb B ∧ PsAt 0 w pa v.n v.P ∧ NsAt 2 0 w ba nb B) := ⟨ok, ht, hP, hB⟩
  obtain ⟨fq, rfl, hfq, hfw, hfa⟩ : ∃ q : Nat, fp = (q : Int) ∧ q < v.n ∧ (fw = 1 ∨ fw = -1) ∧ (0 ≤ fa ∧ fa ≤ (v.P q).ln) := spot_nat ht.spot
  have hnb := ht.nb1
  have hno := ht.no
  obtain ⟨i0, hi0, hz0, hs0, hb0⟩ := info_parts infoPart
  obtain ⟨pb, po, rfl, _, hpb, hpc⟩ := hP (by omega)
  have HPC : Hid (∀ q, q < v.n → pb < w.heap.size ∧ w.cell? ⟨pb, po + q * 4 + 1, none⟩ = some (.int .i64 (v.P q).ln)) := fun q hq => ⟨hpb, (hpc q hq).2.1⟩
  have hvn := ok.n1
  have S0 : Hid (Below w.heap.size w ((w.alloc (.cells #[.slice (some ⟨pb, po, none⟩) v.n pc, .slice ja v.m jc] 40)).alloc (.cells #[.int .i64 (fq : Int), .int .i64 fa, .int .i64 fw, .int .i64 lg, .slice ba nb bk] 33)) ∧ Box ((w.alloc (.cells #[.slice (some ⟨pb, po, none⟩) v.n pc, .slice ja v.m jc] 40)).alloc (.cells #[.int .i64 (fq : Int), .int .i64 fa, .int .i64 fw, .int .i64 lg, .slice ba nb bk] 33)) (w.heap.size) 40 #[.slice (some ⟨pb, po, none⟩) v.n pc, .slice ja v.m jc] ∧ Box ((w.alloc (.cells #[.slice (some ⟨pb, po, none⟩) v.n pc, .slice ja v.m jc] 40)).alloc (.cells #[.int .i64 (fq : Int), .int .i64 fa, .int .i64 fw, .int .i64 lg, .slice ba nb bk] 33)) (w.heap.size + 1) 33 #[.int .i64 (fq : Int), .int .i64 fa, .int .i64 fw, .int .i64 lg, .slice ba nb bk]) := ⟨bel2 _ _ _, (Box.new _ _ _).alloc _, by have := Box.new (w.alloc (.cells #[.slice (some ⟨pb, po, none⟩) v.n pc, .slice ja v.m jc] 40)) 33 #[.int .i64 (fq : Int), .int .i64 fa, .int .i64 fw, .int .i64 lg, .slice ba nb bk]; simpa using this⟩
  clear ok hP ht hB hpc hpb
  go_enter Tryz.func58, Tryz.ntmps58
  go_upto_region 1 with fail
  generalize ((w.alloc (.cells #[.slice (some ⟨pb, po, none⟩) v.n pc, .slice ja v.m jc] 40)).alloc (.cells #[.int .i64 (fq : Int), .int .i64 fa, .int .i64 fw, .int .i64 lg, .slice ba nb bk] 33)) = V0 at S0 ⊢
  have a0 : V0.cell? ⟨w.heap.size, 0, none⟩ = some (.slice (some ⟨pb, po, none⟩) v.n pc) := S0.out.2.1.cell 0
  have a1 : V0.cell? ⟨w.heap.size, 1, none⟩ = some (.slice ja v.m jc) := S0.out.2.1.cell 1
  have b0 : V0.cell? ⟨w.heap.size + 1, 0, none⟩ = some (.int .i64 (fq : Int)) := S0.out.2.2.cell 0
  have b1 : V0.cell? ⟨w.heap.size + 1, 1, none⟩ = some (.int .i64 fa) := S0.out.2.2.cell 1
  have b2 : V0.cell? ⟨w.heap.size + 1, 2, none⟩ = some (.int .i64 fw) := S0.out.2.2.cell 2
  have b3 : V0.cell? ⟨w.heap.size + 1, 3, none⟩ = some (.int .i64 lg) := S0.out.2.2.cell 3
  have b4 : V0.cell? ⟨w.heap.size + 1, 4, none⟩ = some (.slice ba nb bk) := S0.out.2.2.cell 4
  go_wp2_with fail
  clear a0 a1 b0 b1 b2 b3 b4
  refine (behind63 H.out.1 (some ⟨pb, po, none⟩) pc ja jc fq fa fw V0 hfq hfa (H.out.2.2.1.mono (Nat.le_refl _) S0.out.1 (Nat.le_refl _))).mono ?_
  rintro e w1 ⟨rfl, hb1⟩
  have S1 : Hid (Below w.heap.size w w1 ∧ Box w1 (w.heap.size) 40 #[.slice (some ⟨pb, po, none⟩) v.n pc, .slice ja v.m jc] ∧ Box w1 (w.heap.size + 1) 33 #[.int .i64 (fq : Int), .int .i64 fa, .int .i64 fw, .int .i64 lg, .slice ba nb bk]) := ⟨S0.out.1.trans (hb1.mono S0.out.1.size), S0.out.2.1.mono hb1 (Nat.le_refl _), S0.out.2.2.mono hb1 (Nat.le_refl _)⟩
  clear hb1 S0
  have T0 : Hid (Below w.heap.size w (w1.alloc (.cells #[.int .i64 (fq : Int), .int .i64 fw] 74)) ∧ Box (w1.alloc (.cells #[.int .i64 (fq : Int), .int .i64 fw] 74)) (w.heap.size) 40 #[.slice (some ⟨pb, po, none⟩) v.n pc, .slice ja v.m jc] ∧ Box (w1.alloc (.cells #[.int .i64 (fq : Int), .int .i64 fw] 74)) (w.heap.size + 1) 33 #[.int .i64 (fq : Int), .int .i64 fa, .int .i64 fw, .int .i64 lg, .slice ba nb bk] ∧ Box (w1.alloc (.cells #[.int .i64 (fq : Int), .int .i64 fw] 74)) w1.heap.size 74 #[.int .i64 (ahP (fq : Int) B 0), .int .i64 (ahW fw B 0)]) := ⟨S1.out.1.alloc S1.out.1.size _, S1.out.2.1.alloc _, S1.out.2.2.alloc _, Box.new _ _ _⟩
  have HAQ0 : Hid (w.heap.size ≤ w1.heap.size) := S1.out.1.size
  have a0 : w1.cell? ⟨w.heap.size, 0, none⟩ = some (.slice (some ⟨pb, po, none⟩) v.n pc) := S1.out.2.1.cell 0
  have a1 : w1.cell? ⟨w.heap.size, 1, none⟩ = some (.slice ja v.m jc) := S1.out.2.1.cell 1
  have b0 : w1.cell? ⟨w.heap.size + 1, 0, none⟩ = some (.int .i64 (fq : Int)) := S1.out.2.2.cell 0
  have b1 : w1.cell? ⟨w.heap.size + 1, 1, none⟩ = some (.int .i64 fa) := S1.out.2.2.cell 1
  have b2 : w1.cell? ⟨w.heap.size + 1, 2, none⟩ = some (.int .i64 fw) := S1.out.2.2.cell 2
  have b3 : w1.cell? ⟨w.heap.size + 1, 3, none⟩ = some (.int .i64 lg) := S1.out.2.2.cell 3
  have b4 : w1.cell? ⟨w.heap.size + 1, 4, none⟩ = some (.slice ba nb bk) := S1.out.2.2.cell 4
  clear S1
  go_wp2_with fail
  clear a0 a1 b0 b1 b2 b3 b4
  generalize w1.alloc (.cells #[.int .i64 (fq : Int), .int .i64 fw] 74) = V4 at T0 ⊢
  generalize w1.heap.size = aq at T0 HAQ0 ⊢
  have HAQ : Hid (w.heap.size ≤ aq ∧ w.heap.size ≠ aq ∧ w.heap.size + 1 ≠ aq) := ⟨HAQ0.out, box_ne T0.out.2.1 T0.out.2.2.2 (by decide), box_ne T0.out.2.2.1 T0.out.2.2.2 (by decide)⟩
  go_loopw [5, 6, 7, 9] (fun u l y' c wr => ∃ (k n : Nat) (x y : Int) (oa : Option Addr) (oc : Nat), k ≤ nb ∧ c = .int .i64 k ∧ l = .int .i64 x ∧ y' = .int .i64 y ∧ u = .slice oa n oc ∧ Hid (x = lfF v (fq : Int) fa fw lg nb B k ∧ y = heF v (fq : Int) fa fw B k ∧ n = k - noF v (fq : Int) fa fw B) ∧ Hid ((Below w.heap.size w wr ∧ Box wr (w.heap.size) 40 #[.slice (some ⟨pb, po, none⟩) v.n pc, .slice ja v.m jc] ∧ Box wr (w.heap.size + 1) 33 #[.int .i64 (fq : Int), .int .i64 fa, .int .i64 fw, .int .i64 lg, .slice ba nb bk] ∧ Box wr (aq) 74 #[.int .i64 (ahP (fq : Int) B k), .int .i64 (ahW fw B k)]) ∧ VOwn w.heap.size 112 3 wr (.slice oa n oc) n (intF (prF v (stG v (fq : Int) fa fw lg nb B))))) (fun _ _ _ c _ => nb - (intOf c).toNat)
  case atStart => exact ⟨0, 0, lg, _, none, 0, Nat.zero_le _, rfl, rfl, rfl, rfl, ⟨rfl, rfl, by omega⟩, T0.out, VOwn.nil _ _ _ _ _⟩
  case round =>
    clear T0 HAQ0
    obtain ⟨k, n, x, y, oa, oc, hk, rfl, rfl, rfl, rfl, HX, T⟩ := hrel
    obtain ⟨sp, HSP, hspn, hsw⟩ : ∃ q : Nat, Hid (ahP (fq : Int) B k = (q : Int)) ∧ q < v.n ∧ (ahW fw B k = 1 ∨ ahW fw B k = -1) := H.out.2.1.sp k hk
    obtain ⟨wy, HWY⟩ : ∃ q, Hid (ahW fw B k = q) := ⟨_, rfl⟩
    have hswy : wy = 1 ∨ wy = -1 := by rw [← HWY.out]; exact hsw
    have HY : Hid (y = heF v (fq : Int) fa fw B k) := HX.out.2.1
    have D : Hid ((Below w.heap.size w wr ∧ Box wr (w.heap.size) 40 #[.slice (some ⟨pb, po, none⟩) v.n pc, .slice ja v.m jc] ∧ Box wr (w.heap.size + 1) 33 #[.int .i64 (fq : Int), .int .i64 fa, .int .i64 fw, .int .i64 lg, .slice ba nb bk] ∧ Box wr (aq) 74 #[.int .i64 (sp : Int), .int .i64 wy]) ∧ VOwn w.heap.size 112 3 wr (.slice oa n oc) n (intF (prF v (stG v (fq : Int) fa fw lg nb B)))) := ⟨⟨T.out.1.1, T.out.1.2.1, T.out.1.2.2.1, by have h9 := T.out.1.2.2.2; rw [HSP.out, HWY.out] at h9; exact h9⟩, T.out.2⟩
    clear T hsw
    obtain ⟨x0, x1, y0, y1, HF1, HF2⟩ : 0 < x ∧ x ≤ 100000 ∧ 0 ≤ y ∧ y ≤ 10000000 ∧ Hid (x < y → frF v (fq : Int) fa fw lg nb B k = y - x ∧ lfF v (fq : Int) fa fw lg nb B (k + 1) = x - x ∧ (k = 0 → noF v (fq : Int) fa fw B = 0)) ∧ Hid (¬ x < y → frF v (fq : Int) fa fw lg nb B k = y - y ∧ lfF v (fq : Int) fa fw lg nb B (k + 1) = x - y ∧ (0 < y → k = 0 → noF v (fq : Int) fa fw B = 0) ∧ (¬ 0 < y → k = 0 ∧ noF v (fq : Int) fa fw B = 1)) := H.out.2.1.far H.out.1 hk HX.out.1 HX.out.2.1
    by_cases hm : x < y
    · have HF : Hid (frF v (fq : Int) fa fw lg nb B k = y - x ∧ lfF v (fq : Int) fa fw lg nb B (k + 1) = 0 ∧ (k = 0 → noF v (fq : Int) fa fw B = 0)) := (by obtain ⟨h1, h2, h3⟩ := HF1.out hm; exact ⟨h1, by omega, h3⟩)
      have HKN : Hid (k = nb) := (lf_next H.out.2.1 hk).1 HF.out.2.1
      have hwy : IntKind.i64.wrap (y - x) = y - x := by rw [IntKind.wrap_i64]; omega
      have hpos : decide (0 < x) = true := by simp; omega
      clear HF1 HF2
      have HNO : Hid (n + noF v (fq : Int) fa fw B = k ∧ n + 1 = k + 1 - noF v (fq : Int) fa fw B) := by
        have h7 := HX.out.2.2
        have h8 := HF.out.2.2
        have h9 : noF v (fq : Int) fa fw B = 0 ∨ noF v (fq : Int) fa fw B = 1 := by unfold noF; split <;> simp
        show _ ∧ _
        by_cases c : k = 0
        · have := h8 c
          omega
        · omega
      have HVP : Hid (pfA (v.P sp).ln wy (y - x) y = prF v (stG v (fq : Int) fa fw lg nb B) n 1 ∧ pfB (v.P sp).ln wy (y - x) y = prF v (stG v (fq : Int) fa fw lg nb B) n 2 ∧ prF v (stG v (fq : Int) fa fw lg nb B) n 0 = (sp : Int)) := by
        have e0 : stG v (fq : Int) fa fw lg nb B n 0 = (sp : Int) := by rw [stG, HNO.out.1]; exact HSP.out
        have e1 : stG v (fq : Int) fa fw lg nb B n 1 = wy := by rw [stG, HNO.out.1]; exact HWY.out
        have e2 : stG v (fq : Int) fa fw lg nb B n 2 = y - x := by rw [stG, HNO.out.1]; exact HF.out.1
        have e3 : stG v (fq : Int) fa fw lg nb B n 3 = y := by rw [stG, HNO.out.1]; exact HY.out.symm
        refine ⟨?_, ?_, e0⟩
        · show _ = pfA (v.P (stG v (fq : Int) fa fw lg nb B n 0).toNat).ln _ _ _
          rw [e0, e1, e2, e3, Int.toNat_natCast]
        · show _ = pfB (v.P (stG v (fq : Int) fa fw lg nb B n 0).toNat).ln _ _ _
          rw [e0, e1, e2, e3, Int.toNat_natCast]
      have a0 : wr.cell? ⟨w.heap.size, 0, none⟩ = some (.slice (some ⟨pb, po, none⟩) v.n pc) := D.out.1.2.1.cell 0
      have a1 : wr.cell? ⟨w.heap.size, 1, none⟩ = some (.slice ja v.m jc) := D.out.1.2.1.cell 1
      have b0 : wr.cell? ⟨w.heap.size + 1, 0, none⟩ = some (.int .i64 (fq : Int)) := D.out.1.2.2.1.cell 0
      have b1 : wr.cell? ⟨w.heap.size + 1, 1, none⟩ = some (.int .i64 fa) := D.out.1.2.2.1.cell 1
      have b2 : wr.cell? ⟨w.heap.size + 1, 2, none⟩ = some (.int .i64 fw) := D.out.1.2.2.1.cell 2
      have b3 : wr.cell? ⟨w.heap.size + 1, 3, none⟩ = some (.int .i64 lg) := D.out.1.2.2.1.cell 3
      have b4 : wr.cell? ⟨w.heap.size + 1, 4, none⟩ = some (.slice ba nb bk) := D.out.1.2.2.1.cell 4
      have k0 : wr.cell? ⟨aq, 0, none⟩ = some (.int .i64 (sp : Int)) := D.out.1.2.2.2.cell 0
      have k1 : wr.cell? ⟨aq, 1, none⟩ = some (.int .i64 wy) := D.out.1.2.2.2.cell 1
      go_wp2_with fail
      clear a0 a1 b0 b1 b2 b3 b4 k0 k1
      refine (part49 H.out.1 (some ⟨pb, po, none⟩) pc ja jc sp wy (y - x) y wr hspn hswy ⟨by omega, by omega⟩ ⟨by omega, by omega⟩ (H.out.2.2.1.mono (Nat.le_refl _) D.out.1.1 (Nat.le_refl _))).mono ?_
      rintro e w5 ⟨he, hb5⟩
      rw [HVP.out.1, HVP.out.2.1] at he
      obtain ⟨t1, HT1⟩ : ∃ q, Hid (prF v (stG v (fq : Int) fa fw lg nb B) n 1 = q) := ⟨_, rfl⟩
      obtain ⟨t2, HT2⟩ : ∃ q, Hid (prF v (stG v (fq : Int) fa fw lg nb B) n 2 = q) := ⟨_, rfl⟩
      rw [HT1.out, HT2.out] at he
      subst he
      have D2 : Hid ((Below w.heap.size w w5 ∧ Box w5 (w.heap.size) 40 #[.slice (some ⟨pb, po, none⟩) v.n pc, .slice ja v.m jc] ∧ Box w5 (w.heap.size + 1) 33 #[.int .i64 (fq : Int), .int .i64 fa, .int .i64 fw, .int .i64 lg, .slice ba nb bk] ∧ Box w5 (aq) 74 #[.int .i64 (sp : Int), .int .i64 wy]) ∧ VOwn w.heap.size 112 3 w5 (.slice oa n oc) n (intF (prF v (stG v (fq : Int) fa fw lg nb B)))) := ⟨⟨D.out.1.1.trans (hb5.mono D.out.1.1.size), D.out.1.2.1.mono hb5 (Nat.le_refl _), D.out.1.2.2.1.mono hb5 (Nat.le_refl _), D.out.1.2.2.2.mono hb5 (Nat.le_refl _)⟩, D.out.2.mono (Nat.le_refl _) hb5 (Nat.le_refl _)⟩
      clear hb5 D
      have HVS : Hid ((#[.int .i64 (sp : Int), .int .i64 t1, .int .i64 t2] : Array Value).toList = (List.range 3).map (intF (prF v (stG v (fq : Int) fa fw lg nb B)) n)) := by
        show _ = _
        simp [List.range_succ, intF, HVP.out.2.2, HT1.out, HT2.out]
      have hn2 : n + 1 ≤ 300 := by have := HNO.out.2; omega
      have hsz : w.heap.size ≤ (w5.alloc (.cells #[.int .i64 (sp : Int), .int .i64 t1, .int .i64 t2] 112)).heap.size := (D2.out.1.1.alloc D2.out.1.1.size _).size
      go_wp2_with (at_builtin; go_must (refine wpList_vapp _ rfl _ _ 59 rfl w.heap.size 112 i0 _ 3 24 Tryz.underlying59 hi0 hz0 hs0 hb0 rfl (by decide) (.slice oa n oc) n (intF (prF v (stG v (fq : Int) fa fw lg nb B))) rfl (D2.out.2.alloc _) (fun _ _ => rfl) w5.heap.size 1 #[.int .i64 (sp : Int), .int .i64 t1, .int .i64 t2] rfl (Box.new _ _ _) HVS.out (by simp only [maxLen]; omega) (by omega) hsz (Halt.mk ?_)))
      intro v2 w6 ho2 hg2
      have HA := app3c D2.out.1.1 D2.out.1.2.1 D2.out.1.2.2.1 D2.out.1.2.2.2 D2.out.2 (by decide) (by decide) (by decide) ho2 hg2
      obtain ⟨a2, c2, rfl⟩ := ho2.val
      have E : Hid ((Below w.heap.size w w6 ∧ Box w6 (w.heap.size) 40 #[.slice (some ⟨pb, po, none⟩) v.n pc, .slice ja v.m jc] ∧ Box w6 (w.heap.size + 1) 33 #[.int .i64 (fq : Int), .int .i64 fa, .int .i64 fw, .int .i64 lg, .slice ba nb bk] ∧ Box w6 (aq) 74 #[.int .i64 (sp : Int), .int .i64 wy]) ∧ VOwn w.heap.size 112 3 w6 (.slice a2 (n + 1) c2) (n + 1) (intF (prF v (stG v (fq : Int) fa fw lg nb B)))) := HA
      clear HA ho2 hg2 hsz D2
      have HNN : Hid (n + 1 = nb + 1 - noF v (fq : Int) fa fw B) := by have := HNO.out.2; have := HKN.out; show _ = _; omega
      go_wp2_with fail
      go_ret
      exact ⟨a2, c2, by rw [← HNN.out]; rfl, by rw [← HNN.out]; exact E.out.2, E.out.1.1⟩
    · by_cases hy0 : 0 < y
      · have HF : Hid (frF v (fq : Int) fa fw lg nb B k = 0 ∧ lfF v (fq : Int) fa fw lg nb B (k + 1) = x - y ∧ (k = 0 → noF v (fq : Int) fa fw B = 0)) := (by obtain ⟨h1, h2, h3, _⟩ := HF2.out hm; exact ⟨by omega, h2, h3 hy0⟩)
        have hpos : decide (0 < y) = true := by simp; omega
        clear HF1 HF2
        have HNO : Hid (n + noF v (fq : Int) fa fw B = k ∧ n + 1 = k + 1 - noF v (fq : Int) fa fw B) := by
          have h7 := HX.out.2.2
          have h8 := HF.out.2.2
          have h9 : noF v (fq : Int) fa fw B = 0 ∨ noF v (fq : Int) fa fw B = 1 := by unfold noF; split <;> simp
          show _ ∧ _
          by_cases c : k = 0
          · have := h8 c
            omega
          · omega
        by_cases hxy : x = y
        · have HKN : Hid (k = nb) := (lf_next H.out.2.1 hk).1 (by have := HF.out.2.1; omega)
          subst hxy
          have HVP : Hid (pfA (v.P sp).ln wy (0) x = prF v (stG v (fq : Int) fa fw lg nb B) n 1 ∧ pfB (v.P sp).ln wy (0) x = prF v (stG v (fq : Int) fa fw lg nb B) n 2 ∧ prF v (stG v (fq : Int) fa fw lg nb B) n 0 = (sp : Int)) := by
            have e0 : stG v (fq : Int) fa fw lg nb B n 0 = (sp : Int) := by rw [stG, HNO.out.1]; exact HSP.out
            have e1 : stG v (fq : Int) fa fw lg nb B n 1 = wy := by rw [stG, HNO.out.1]; exact HWY.out
            have e2 : stG v (fq : Int) fa fw lg nb B n 2 = 0 := by rw [stG, HNO.out.1]; exact HF.out.1
            have e3 : stG v (fq : Int) fa fw lg nb B n 3 = x := by rw [stG, HNO.out.1]; exact HY.out.symm
            refine ⟨?_, ?_, e0⟩
            · show _ = pfA (v.P (stG v (fq : Int) fa fw lg nb B n 0).toNat).ln _ _ _
              rw [e0, e1, e2, e3, Int.toNat_natCast]
            · show _ = pfB (v.P (stG v (fq : Int) fa fw lg nb B n 0).toNat).ln _ _ _
              rw [e0, e1, e2, e3, Int.toNat_natCast]
          have a0 : wr.cell? ⟨w.heap.size, 0, none⟩ = some (.slice (some ⟨pb, po, none⟩) v.n pc) := D.out.1.2.1.cell 0
          have a1 : wr.cell? ⟨w.heap.size, 1, none⟩ = some (.slice ja v.m jc) := D.out.1.2.1.cell 1
          have b0 : wr.cell? ⟨w.heap.size + 1, 0, none⟩ = some (.int .i64 (fq : Int)) := D.out.1.2.2.1.cell 0
          have b1 : wr.cell? ⟨w.heap.size + 1, 1, none⟩ = some (.int .i64 fa) := D.out.1.2.2.1.cell 1
          have b2 : wr.cell? ⟨w.heap.size + 1, 2, none⟩ = some (.int .i64 fw) := D.out.1.2.2.1.cell 2
          have b3 : wr.cell? ⟨w.heap.size + 1, 3, none⟩ = some (.int .i64 lg) := D.out.1.2.2.1.cell 3
          have b4 : wr.cell? ⟨w.heap.size + 1, 4, none⟩ = some (.slice ba nb bk) := D.out.1.2.2.1.cell 4
          have k0 : wr.cell? ⟨aq, 0, none⟩ = some (.int .i64 (sp : Int)) := D.out.1.2.2.2.cell 0
          have k1 : wr.cell? ⟨aq, 1, none⟩ = some (.int .i64 wy) := D.out.1.2.2.2.cell 1
          go_wp2_with fail
          clear a0 a1 b0 b1 b2 b3 b4 k0 k1
          refine (part49 H.out.1 (some ⟨pb, po, none⟩) pc ja jc sp wy (0) x wr hspn hswy ⟨by omega, by omega⟩ ⟨by omega, by omega⟩ (H.out.2.2.1.mono (Nat.le_refl _) D.out.1.1 (Nat.le_refl _))).mono ?_
          rintro e w5 ⟨he, hb5⟩
          rw [HVP.out.1, HVP.out.2.1] at he
          obtain ⟨t1, HT1⟩ : ∃ q, Hid (prF v (stG v (fq : Int) fa fw lg nb B) n 1 = q) := ⟨_, rfl⟩
          obtain ⟨t2, HT2⟩ : ∃ q, Hid (prF v (stG v (fq : Int) fa fw lg nb B) n 2 = q) := ⟨_, rfl⟩
          rw [HT1.out, HT2.out] at he
          subst he
          have D2 : Hid ((Below w.heap.size w w5 ∧ Box w5 (w.heap.size) 40 #[.slice (some ⟨pb, po, none⟩) v.n pc, .slice ja v.m jc] ∧ Box w5 (w.heap.size + 1) 33 #[.int .i64 (fq : Int), .int .i64 fa, .int .i64 fw, .int .i64 lg, .slice ba nb bk] ∧ Box w5 (aq) 74 #[.int .i64 (sp : Int), .int .i64 wy]) ∧ VOwn w.heap.size 112 3 w5 (.slice oa n oc) n (intF (prF v (stG v (fq : Int) fa fw lg nb B)))) := ⟨⟨D.out.1.1.trans (hb5.mono D.out.1.1.size), D.out.1.2.1.mono hb5 (Nat.le_refl _), D.out.1.2.2.1.mono hb5 (Nat.le_refl _), D.out.1.2.2.2.mono hb5 (Nat.le_refl _)⟩, D.out.2.mono (Nat.le_refl _) hb5 (Nat.le_refl _)⟩
          clear hb5 D
          have HVS : Hid ((#[.int .i64 (sp : Int), .int .i64 t1, .int .i64 t2] : Array Value).toList = (List.range 3).map (intF (prF v (stG v (fq : Int) fa fw lg nb B)) n)) := by
            show _ = _
            simp [List.range_succ, intF, HVP.out.2.2, HT1.out, HT2.out]
          have hn2 : n + 1 ≤ 300 := by have := HNO.out.2; omega
          have hsz : w.heap.size ≤ (w5.alloc (.cells #[.int .i64 (sp : Int), .int .i64 t1, .int .i64 t2] 112)).heap.size := (D2.out.1.1.alloc D2.out.1.1.size _).size
          go_wp2_with (at_builtin; go_must (refine wpList_vapp _ rfl _ _ 59 rfl w.heap.size 112 i0 _ 3 24 Tryz.underlying59 hi0 hz0 hs0 hb0 rfl (by decide) (.slice oa n oc) n (intF (prF v (stG v (fq : Int) fa fw lg nb B))) rfl (D2.out.2.alloc _) (fun _ _ => rfl) w5.heap.size 1 #[.int .i64 (sp : Int), .int .i64 t1, .int .i64 t2] rfl (Box.new _ _ _) HVS.out (by simp only [maxLen]; omega) (by omega) hsz (Halt.mk ?_)))
          intro v2 w6 ho2 hg2
          have HA := app3c D2.out.1.1 D2.out.1.2.1 D2.out.1.2.2.1 D2.out.1.2.2.2 D2.out.2 (by decide) (by decide) (by decide) ho2 hg2
          obtain ⟨a2, c2, rfl⟩ := ho2.val
          have E : Hid ((Below w.heap.size w w6 ∧ Box w6 (w.heap.size) 40 #[.slice (some ⟨pb, po, none⟩) v.n pc, .slice ja v.m jc] ∧ Box w6 (w.heap.size + 1) 33 #[.int .i64 (fq : Int), .int .i64 fa, .int .i64 fw, .int .i64 lg, .slice ba nb bk] ∧ Box w6 (aq) 74 #[.int .i64 (sp : Int), .int .i64 wy]) ∧ VOwn w.heap.size 112 3 w6 (.slice a2 (n + 1) c2) (n + 1) (intF (prF v (stG v (fq : Int) fa fw lg nb B)))) := HA
          clear HA ho2 hg2 hsz D2
          have HNN : Hid (n + 1 = nb + 1 - noF v (fq : Int) fa fw B) := by have := HNO.out.2; have := HKN.out; show _ = _; omega
          go_wp2_with fail
          go_ret
          exact ⟨a2, c2, by rw [← HNN.out]; rfl, by rw [← HNN.out]; exact E.out.2, E.out.1.1⟩
        · have HKN : Hid (k < nb) := (lf_next H.out.2.1 hk).2 (by have := HF.out.2.1; omega)
          have hwx : IntKind.i64.wrap (x - y) = x - y := by rw [IntKind.wrap_i64]; omega
          have hne : ((x - y : Int) == 0) = false := by simp; omega
          have HVP : Hid (pfA (v.P sp).ln wy (0) y = prF v (stG v (fq : Int) fa fw lg nb B) n 1 ∧ pfB (v.P sp).ln wy (0) y = prF v (stG v (fq : Int) fa fw lg nb B) n 2 ∧ prF v (stG v (fq : Int) fa fw lg nb B) n 0 = (sp : Int)) := by
            have e0 : stG v (fq : Int) fa fw lg nb B n 0 = (sp : Int) := by rw [stG, HNO.out.1]; exact HSP.out
            have e1 : stG v (fq : Int) fa fw lg nb B n 1 = wy := by rw [stG, HNO.out.1]; exact HWY.out
            have e2 : stG v (fq : Int) fa fw lg nb B n 2 = 0 := by rw [stG, HNO.out.1]; exact HF.out.1
            have e3 : stG v (fq : Int) fa fw lg nb B n 3 = y := by rw [stG, HNO.out.1]; exact HY.out.symm
            refine ⟨?_, ?_, e0⟩
            · show _ = pfA (v.P (stG v (fq : Int) fa fw lg nb B n 0).toNat).ln _ _ _
              rw [e0, e1, e2, e3, Int.toNat_natCast]
            · show _ = pfB (v.P (stG v (fq : Int) fa fw lg nb B n 0).toNat).ln _ _ _
              rw [e0, e1, e2, e3, Int.toNat_natCast]
          have a0 : wr.cell? ⟨w.heap.size, 0, none⟩ = some (.slice (some ⟨pb, po, none⟩) v.n pc) := D.out.1.2.1.cell 0
          have a1 : wr.cell? ⟨w.heap.size, 1, none⟩ = some (.slice ja v.m jc) := D.out.1.2.1.cell 1
          have b0 : wr.cell? ⟨w.heap.size + 1, 0, none⟩ = some (.int .i64 (fq : Int)) := D.out.1.2.2.1.cell 0
          have b1 : wr.cell? ⟨w.heap.size + 1, 1, none⟩ = some (.int .i64 fa) := D.out.1.2.2.1.cell 1
          have b2 : wr.cell? ⟨w.heap.size + 1, 2, none⟩ = some (.int .i64 fw) := D.out.1.2.2.1.cell 2
          have b3 : wr.cell? ⟨w.heap.size + 1, 3, none⟩ = some (.int .i64 lg) := D.out.1.2.2.1.cell 3
          have b4 : wr.cell? ⟨w.heap.size + 1, 4, none⟩ = some (.slice ba nb bk) := D.out.1.2.2.1.cell 4
          have k0 : wr.cell? ⟨aq, 0, none⟩ = some (.int .i64 (sp : Int)) := D.out.1.2.2.2.cell 0
          have k1 : wr.cell? ⟨aq, 1, none⟩ = some (.int .i64 wy) := D.out.1.2.2.2.cell 1
          go_wp2_with fail
          clear a0 a1 b0 b1 b2 b3 b4 k0 k1
          refine (part49 H.out.1 (some ⟨pb, po, none⟩) pc ja jc sp wy (0) y wr hspn hswy ⟨by omega, by omega⟩ ⟨by omega, by omega⟩ (H.out.2.2.1.mono (Nat.le_refl _) D.out.1.1 (Nat.le_refl _))).mono ?_
          rintro e w5 ⟨he, hb5⟩
          rw [HVP.out.1, HVP.out.2.1] at he
          obtain ⟨t1, HT1⟩ : ∃ q, Hid (prF v (stG v (fq : Int) fa fw lg nb B) n 1 = q) := ⟨_, rfl⟩
          obtain ⟨t2, HT2⟩ : ∃ q, Hid (prF v (stG v (fq : Int) fa fw lg nb B) n 2 = q) := ⟨_, rfl⟩
          rw [HT1.out, HT2.out] at he
          subst he
          have D2 : Hid ((Below w.heap.size w w5 ∧ Box w5 (w.heap.size) 40 #[.slice (some ⟨pb, po, none⟩) v.n pc, .slice ja v.m jc] ∧ Box w5 (w.heap.size + 1) 33 #[.int .i64 (fq : Int), .int .i64 fa, .int .i64 fw, .int .i64 lg, .slice ba nb bk] ∧ Box w5 (aq) 74 #[.int .i64 (sp : Int), .int .i64 wy]) ∧ VOwn w.heap.size 112 3 w5 (.slice oa n oc) n (intF (prF v (stG v (fq : Int) fa fw lg nb B)))) := ⟨⟨D.out.1.1.trans (hb5.mono D.out.1.1.size), D.out.1.2.1.mono hb5 (Nat.le_refl _), D.out.1.2.2.1.mono hb5 (Nat.le_refl _), D.out.1.2.2.2.mono hb5 (Nat.le_refl _)⟩, D.out.2.mono (Nat.le_refl _) hb5 (Nat.le_refl _)⟩
          clear hb5 D
          have HVS : Hid ((#[.int .i64 (sp : Int), .int .i64 t1, .int .i64 t2] : Array Value).toList = (List.range 3).map (intF (prF v (stG v (fq : Int) fa fw lg nb B)) n)) := by
            show _ = _
            simp [List.range_succ, intF, HVP.out.2.2, HT1.out, HT2.out]
          have hn2 : n + 1 ≤ 300 := by have := HNO.out.2; omega
          have hsz : w.heap.size ≤ (w5.alloc (.cells #[.int .i64 (sp : Int), .int .i64 t1, .int .i64 t2] 112)).heap.size := (D2.out.1.1.alloc D2.out.1.1.size _).size
          go_wp2_with (at_builtin; go_must (refine wpList_vapp _ rfl _ _ 59 rfl w.heap.size 112 i0 _ 3 24 Tryz.underlying59 hi0 hz0 hs0 hb0 rfl (by decide) (.slice oa n oc) n (intF (prF v (stG v (fq : Int) fa fw lg nb B))) rfl (D2.out.2.alloc _) (fun _ _ => rfl) w5.heap.size 1 #[.int .i64 (sp : Int), .int .i64 t1, .int .i64 t2] rfl (Box.new _ _ _) HVS.out (by simp only [maxLen]; omega) (by omega) hsz (Halt.mk ?_)))
          intro v2 w6 ho2 hg2
          have HA := app3c D2.out.1.1 D2.out.1.2.1 D2.out.1.2.2.1 D2.out.1.2.2.2 D2.out.2 (by decide) (by decide) (by decide) ho2 hg2
          obtain ⟨a2, c2, rfl⟩ := ho2.val
          have E : Hid ((Below w.heap.size w w6 ∧ Box w6 (w.heap.size) 40 #[.slice (some ⟨pb, po, none⟩) v.n pc, .slice ja v.m jc] ∧ Box w6 (w.heap.size + 1) 33 #[.int .i64 (fq : Int), .int .i64 fa, .int .i64 fw, .int .i64 lg, .slice ba nb bk] ∧ Box w6 (aq) 74 #[.int .i64 (sp : Int), .int .i64 wy]) ∧ VOwn w.heap.size 112 3 w6 (.slice a2 (n + 1) c2) (n + 1) (intF (prF v (stG v (fq : Int) fa fw lg nb B)))) := HA
          clear HA ho2 hg2 hsz D2
          have hkn : (k : Int) < (nb : Int) := by have := HKN.out; omega
          have hkb : ((k : Int) == (nb : Int)) = false := by simp; omega
          have hk0 : (0 : Int) ≤ (k : Int) := by omega
          obtain ⟨s2, HS2, hs2n, _⟩ : ∃ q : Nat, Hid (ahP (fq : Int) B (k + 1) = (q : Int)) ∧ q < v.n ∧ (ahW fw B (k + 1) = 1 ∨ ahW fw B (k + 1) = -1) := H.out.2.1.sp (k + 1) HKN.out
          obtain ⟨w2y, HW2⟩ : ∃ q, Hid (ahW fw B (k + 1) = q) := ⟨_, rfl⟩
          have hs20 : (0 : Int) ≤ (s2 : Int) := by omega
          have hs2i : (s2 : Int) < (v.n : Int) := by omega
          obtain ⟨bb, bo, hbe, _, hbb, hbc⟩ := H.out.2.2.2 (by have := HKN.out; omega)
          have HHE : Hid ((v.P s2).ln = heF v (fq : Int) fa fw B (k + 1)) := by
            show _ = (v.P (B k 0).toNat).ln
            rw [show B k 0 = (s2 : Int) from HS2.out, Int.toNat_natCast]
          have g0 : w6.cell? ⟨bb, bo + k * 2, none⟩ = some (.int .i64 (s2 : Int)) := cell_keep E.out.1.1 hbb (by have := hbc k HKN.out 0 (by omega); rw [show B k 0 = (s2 : Int) from HS2.out] at this; exact this)
          have g1 : w6.cell? ⟨bb, bo + k * 2 + 1, none⟩ = some (.int .i64 w2y) := cell_keep E.out.1.1 hbb (by have := hbc k HKN.out 1 (by omega); rw [show B k 1 = w2y from HW2.out] at this; exact this)
          have hbs : ba = some ⟨bb, bo, none⟩ := hbe
          clear hbe hbc hbb
          subst hbs
          have t4 : w6.cell? ⟨w.heap.size + 1, 4, none⟩ = some (.slice (some ⟨bb, bo, none⟩) nb bk) := E.out.1.2.2.1.cell 4
          have a0 : w6.cell? ⟨aq, 0, none⟩ = some (.int .i64 (sp : Int)) := E.out.1.2.2.2.cell 0
          have a1 : w6.cell? ⟨aq, 1, none⟩ = some (.int .i64 wy) := E.out.1.2.2.2.cell 1
          have f0 := E.out.1.2.2.2.free 0
          have f1 := E.out.1.2.2.2.free 1
          have T8 : Hid ((Below w.heap.size w ((w6.setCell ⟨aq, 0, none⟩ (.int .i64 (s2 : Int))).setCell ⟨aq, 1, none⟩ (.int .i64 w2y)) ∧ Box ((w6.setCell ⟨aq, 0, none⟩ (.int .i64 (s2 : Int))).setCell ⟨aq, 1, none⟩ (.int .i64 w2y)) (w.heap.size) 40 #[.slice (some ⟨pb, po, none⟩) v.n pc, .slice ja v.m jc] ∧ Box ((w6.setCell ⟨aq, 0, none⟩ (.int .i64 (s2 : Int))).setCell ⟨aq, 1, none⟩ (.int .i64 w2y)) (w.heap.size + 1) 33 #[.int .i64 (fq : Int), .int .i64 fa, .int .i64 fw, .int .i64 lg, .slice (some ⟨bb, bo, none⟩) nb bk] ∧ Box ((w6.setCell ⟨aq, 0, none⟩ (.int .i64 (s2 : Int))).setCell ⟨aq, 1, none⟩ (.int .i64 w2y)) (aq) 74 #[.int .i64 (ahP (fq : Int) B (k + 1)), .int .i64 (ahW fw B (k + 1))]) ∧ VOwn w.heap.size 112 3 ((w6.setCell ⟨aq, 0, none⟩ (.int .i64 (s2 : Int))).setCell ⟨aq, 1, none⟩ (.int .i64 w2y)) (.slice a2 (n + 1) c2) (n + 1) (intF (prF v (stG v (fq : Int) fa fw lg nb B)))) := by
            refine ⟨⟨(E.out.1.1.setCell HAQ.out.1 _).setCell HAQ.out.1 _, (E.out.1.2.1.other HAQ.out.2.1 _).other HAQ.out.2.1 _, (E.out.1.2.2.1.other HAQ.out.2.2 _).other HAQ.out.2.2 _, ?_⟩, (E.out.2.set E.out.1.2.2.2 (by decide) 0 _).set (E.out.1.2.2.2.set 0 (.int .i64 (s2 : Int))) (by decide) 1 _⟩
            have h9 := (E.out.1.2.2.2.set 0 (.int .i64 (s2 : Int))).set 1 (.int .i64 w2y)
            rw [HS2.out, HW2.out]
            exact h9
          clear E
          go_upto_region 16 with fail
          clear g0 g1 t4 a0 a1 f0 f1
          generalize ((w6.setCell ⟨aq, 0, none⟩ (.int .i64 (s2 : Int))).setCell ⟨aq, 1, none⟩ (.int .i64 w2y)) = W7 at T8 ⊢
          have n0 : W7.cell? ⟨w.heap.size, 0, none⟩ = some (.slice (some ⟨pb, po, none⟩) v.n pc) := T8.out.1.2.1.cell 0
          have a0 : W7.cell? ⟨aq, 0, none⟩ = some (.int .i64 (s2 : Int)) := by have h9 := T8.out.1.2.2.2.cell 0; rw [HS2.out] at h9; exact h9
          have c1 : W7.cell? ⟨pb, po + s2 * 4 + 1, none⟩ = some (.int .i64 (v.P s2).ln) := cell_keep T8.out.1.1 (HPC.out s2 hs2n).1 (HPC.out s2 hs2n).2
          go_wp2_with fail
          clear n0 a0 c1
          go_roundw
          case rel => exact ⟨k + 1, (n + 1), x - y, _, a2, c2, HKN.out, by go_num, rfl, rfl, rfl, ⟨HF.out.2.1.symm, HHE.out, HNO.out.2⟩, T8⟩
          case measure => simp [intOf]; have := HKN.out; omega
      · obtain rfl : y = 0 := by omega
        have HF : Hid (lfF v (fq : Int) fa fw lg nb B (k + 1) = x ∧ k = 0 ∧ noF v (fq : Int) fa fw B = 1) := (by obtain ⟨_, h2, _, h4⟩ := HF2.out hm; exact ⟨by omega, h4 hy0⟩)
        have HKN : Hid (k < nb) := (lf_next H.out.2.1 hk).2 (by have := HF.out.1; omega)
        have hwx : IntKind.i64.wrap x = x := by rw [IntKind.wrap_i64]; omega
        have hne : ((x : Int) == 0) = false := by simp; omega
        have hm2 : decide (x < 0) = false := by simp; omega
        have E : Hid ((Below w.heap.size w wr ∧ Box wr (w.heap.size) 40 #[.slice (some ⟨pb, po, none⟩) v.n pc, .slice ja v.m jc] ∧ Box wr (w.heap.size + 1) 33 #[.int .i64 (fq : Int), .int .i64 fa, .int .i64 fw, .int .i64 lg, .slice ba nb bk] ∧ Box wr (aq) 74 #[.int .i64 (sp : Int), .int .i64 wy]) ∧ VOwn w.heap.size 112 3 wr (.slice oa n oc) n (intF (prF v (stG v (fq : Int) fa fw lg nb B)))) := D
        clear D HF1 HF2
        have hkn : (k : Int) < (nb : Int) := by have := HKN.out; omega
        have hkb : ((k : Int) == (nb : Int)) = false := by simp; omega
        have hk0 : (0 : Int) ≤ (k : Int) := by omega
        obtain ⟨s2, HS2, hs2n, _⟩ : ∃ q : Nat, Hid (ahP (fq : Int) B (k + 1) = (q : Int)) ∧ q < v.n ∧ (ahW fw B (k + 1) = 1 ∨ ahW fw B (k + 1) = -1) := H.out.2.1.sp (k + 1) HKN.out
        obtain ⟨w2y, HW2⟩ : ∃ q, Hid (ahW fw B (k + 1) = q) := ⟨_, rfl⟩
        have hs20 : (0 : Int) ≤ (s2 : Int) := by omega
        have hs2i : (s2 : Int) < (v.n : Int) := by omega
        obtain ⟨bb, bo, hbe, _, hbb, hbc⟩ := H.out.2.2.2 (by have := HKN.out; omega)
        have HHE : Hid ((v.P s2).ln = heF v (fq : Int) fa fw B (k + 1)) := by
          show _ = (v.P (B k 0).toNat).ln
          rw [show B k 0 = (s2 : Int) from HS2.out, Int.toNat_natCast]
        have g0 : wr.cell? ⟨bb, bo + k * 2, none⟩ = some (.int .i64 (s2 : Int)) := cell_keep E.out.1.1 hbb (by have := hbc k HKN.out 0 (by omega); rw [show B k 0 = (s2 : Int) from HS2.out] at this; exact this)
        have g1 : wr.cell? ⟨bb, bo + k * 2 + 1, none⟩ = some (.int .i64 w2y) := cell_keep E.out.1.1 hbb (by have := hbc k HKN.out 1 (by omega); rw [show B k 1 = w2y from HW2.out] at this; exact this)
        have hbs : ba = some ⟨bb, bo, none⟩ := hbe
        clear hbe hbc hbb
        subst hbs
        have t4 : wr.cell? ⟨w.heap.size + 1, 4, none⟩ = some (.slice (some ⟨bb, bo, none⟩) nb bk) := E.out.1.2.2.1.cell 4
        have a0 : wr.cell? ⟨aq, 0, none⟩ = some (.int .i64 (sp : Int)) := E.out.1.2.2.2.cell 0
        have a1 : wr.cell? ⟨aq, 1, none⟩ = some (.int .i64 wy) := E.out.1.2.2.2.cell 1
        have f0 := E.out.1.2.2.2.free 0
        have f1 := E.out.1.2.2.2.free 1
        have T8 : Hid ((Below w.heap.size w ((wr.setCell ⟨aq, 0, none⟩ (.int .i64 (s2 : Int))).setCell ⟨aq, 1, none⟩ (.int .i64 w2y)) ∧ Box ((wr.setCell ⟨aq, 0, none⟩ (.int .i64 (s2 : Int))).setCell ⟨aq, 1, none⟩ (.int .i64 w2y)) (w.heap.size) 40 #[.slice (some ⟨pb, po, none⟩) v.n pc, .slice ja v.m jc] ∧ Box ((wr.setCell ⟨aq, 0, none⟩ (.int .i64 (s2 : Int))).setCell ⟨aq, 1, none⟩ (.int .i64 w2y)) (w.heap.size + 1) 33 #[.int .i64 (fq : Int), .int .i64 fa, .int .i64 fw, .int .i64 lg, .slice (some ⟨bb, bo, none⟩) nb bk] ∧ Box ((wr.setCell ⟨aq, 0, none⟩ (.int .i64 (s2 : Int))).setCell ⟨aq, 1, none⟩ (.int .i64 w2y)) (aq) 74 #[.int .i64 (ahP (fq : Int) B (k + 1)), .int .i64 (ahW fw B (k + 1))]) ∧ VOwn w.heap.size 112 3 ((wr.setCell ⟨aq, 0, none⟩ (.int .i64 (s2 : Int))).setCell ⟨aq, 1, none⟩ (.int .i64 w2y)) (.slice oa n oc) n (intF (prF v (stG v (fq : Int) fa fw lg nb B)))) := by
          refine ⟨⟨(E.out.1.1.setCell HAQ.out.1 _).setCell HAQ.out.1 _, (E.out.1.2.1.other HAQ.out.2.1 _).other HAQ.out.2.1 _, (E.out.1.2.2.1.other HAQ.out.2.2 _).other HAQ.out.2.2 _, ?_⟩, (E.out.2.set E.out.1.2.2.2 (by decide) 0 _).set (E.out.1.2.2.2.set 0 (.int .i64 (s2 : Int))) (by decide) 1 _⟩
          have h9 := (E.out.1.2.2.2.set 0 (.int .i64 (s2 : Int))).set 1 (.int .i64 w2y)
          rw [HS2.out, HW2.out]
          exact h9
        clear E
        go_upto_region 16 with fail
        clear g0 g1 t4 a0 a1 f0 f1
        generalize ((wr.setCell ⟨aq, 0, none⟩ (.int .i64 (s2 : Int))).setCell ⟨aq, 1, none⟩ (.int .i64 w2y)) = W7 at T8 ⊢
        have n0 : W7.cell? ⟨w.heap.size, 0, none⟩ = some (.slice (some ⟨pb, po, none⟩) v.n pc) := T8.out.1.2.1.cell 0
        have a0 : W7.cell? ⟨aq, 0, none⟩ = some (.int .i64 (s2 : Int)) := by have h9 := T8.out.1.2.2.2.cell 0; rw [HS2.out] at h9; exact h9
        have c1 : W7.cell? ⟨pb, po + s2 * 4 + 1, none⟩ = some (.int .i64 (v.P s2).ln) := cell_keep T8.out.1.1 (HPC.out s2 hs2n).1 (HPC.out s2 hs2n).2
        go_wp2_with fail
        clear n0 a0 c1
        go_roundw
        case rel => exact ⟨k + 1, n, x, _, oa, oc, HKN.out, by go_num, rfl, rfl, rfl, ⟨HF.out.1.symm, HHE.out, (by have := HF.out.2; have := HX.out.2.2; omega)⟩, T8⟩
        case measure => simp [intOf]; have := HKN.out; omega

end Go.Proofs.YtjhmaofjmalglaaGreat
