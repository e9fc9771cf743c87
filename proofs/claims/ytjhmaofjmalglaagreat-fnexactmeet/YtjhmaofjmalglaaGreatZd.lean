import Derived.Test.YtjhmaofjmalglaaGreatZc
namespace Go.Proofs.YtjhmaofjmalglaaGreat
open Go.RowKit Go.Lib

set_option maxRecDepth 100000 in
set_option maxHeartbeats 8000000 in
theorem implBody10 {v : Nv} (pa : Option Addr) (pc : Nat) (ja : Option Addr) (jc : Nat) (fp fa fw lg : Int) (nb : Nat) (B : Nat → Nat → Int) (bb bo bk : Nat) (w : World) (hn : v.n ≤ 1048576) (hm : v.m ≤ 1048576) (hnb : nb ≤ 1048576) (hpc : v.n ≤ pc) (hpm : pc ≤ maxLen) (hjc : v.m ≤ jc) (hjm : jc ≤ maxLen) (hP : PsAt 0 w pa v.n v.P) (hJ : JsAt 0 w ja v.m v.J) (hps : ∀ i, i < v.n → (v.P i).nm.size ≤ maxLen) (hjs : ∀ i, i < v.m → (v.J i).ne ≤ 1048576 ∧ (v.J i).nm.size ≤ maxLen) (hB : NsAt 2 0 w (some ⟨bb, bo, none⟩) nb B) :
    Calls Tryz.prog 61 #[.agg #[.slice pa v.n pc, .slice ja v.m jc], .agg #[.int .i64 fp, .int .i64 fa, .int .i64 fw, .int .i64 lg, .slice (some ⟨bb, bo, none⟩) nb bk]] w fun e w' => BdR w v fp fa fw lg nb B e w' := by
  have H : Hid (PsAt 0 w pa v.n v.P ∧ JsAt 0 w ja v.m v.J ∧ (∀ i, i < v.n → (v.P i).nm.size ≤ maxLen) ∧ (∀ i, i < v.m → (v.J i).ne ≤ 1048576 ∧ (v.J i).nm.size ≤ maxLen) ∧ NsAt 2 0 w (some ⟨bb, bo, none⟩) nb B) := ⟨hP, hJ, hps, hjs, hB⟩
  have S0 : Hid (Below w.heap.size w ((w.alloc (.cells #[.slice pa v.n pc, .slice ja v.m jc] 40)).alloc (.cells #[.int .i64 fp, .int .i64 fa, .int .i64 fw, .int .i64 lg, .slice (some ⟨bb, bo, none⟩) nb bk] 33)) ∧ Box ((w.alloc (.cells #[.slice pa v.n pc, .slice ja v.m jc] 40)).alloc (.cells #[.int .i64 fp, .int .i64 fa, .int .i64 fw, .int .i64 lg, .slice (some ⟨bb, bo, none⟩) nb bk] 33)) (w.heap.size) 40 #[.slice pa v.n pc, .slice ja v.m jc] ∧ Box ((w.alloc (.cells #[.slice pa v.n pc, .slice ja v.m jc] 40)).alloc (.cells #[.int .i64 fp, .int .i64 fa, .int .i64 fw, .int .i64 lg, .slice (some ⟨bb, bo, none⟩) nb bk] 33)) (w.heap.size + 1) 33 #[.int .i64 fp, .int .i64 fa, .int .i64 fw, .int .i64 lg, .slice (some ⟨bb, bo, none⟩) nb bk]) := ⟨bel2 _ _ _, (Box.new _ _ _).alloc _, by have := Box.new (w.alloc (.cells #[.slice pa v.n pc, .slice ja v.m jc] 40)) 33 #[.int .i64 fp, .int .i64 fa, .int .i64 fw, .int .i64 lg, .slice (some ⟨bb, bo, none⟩) nb bk]; simpa using this⟩
  clear hP hJ hps hjs hB
  obtain ⟨u, HU⟩ : ∃ u, Hid (trainF v fp fa fw lg nb B = u) := ⟨_, rfl⟩
  go_enter Tryz.func61, Tryz.ntmps61
  go_upto_region 1 with fail
  generalize ((w.alloc (.cells #[.slice pa v.n pc, .slice ja v.m jc] 40)).alloc (.cells #[.int .i64 fp, .int .i64 fa, .int .i64 fw, .int .i64 lg, .slice (some ⟨bb, bo, none⟩) nb bk] 33)) = V0 at S0 ⊢
  have a0 : V0.cell? ⟨w.heap.size, 0, none⟩ = some (.slice pa v.n pc) := S0.out.2.1.cell 0
  have a1 : V0.cell? ⟨w.heap.size, 1, none⟩ = some (.slice ja v.m jc) := S0.out.2.1.cell 1
  have b0 : V0.cell? ⟨w.heap.size + 1, 0, none⟩ = some (.int .i64 fp) := S0.out.2.2.cell 0
  have b1 : V0.cell? ⟨w.heap.size + 1, 1, none⟩ = some (.int .i64 fa) := S0.out.2.2.cell 1
  have b2 : V0.cell? ⟨w.heap.size + 1, 2, none⟩ = some (.int .i64 fw) := S0.out.2.2.cell 2
  have b3 : V0.cell? ⟨w.heap.size + 1, 3, none⟩ = some (.int .i64 lg) := S0.out.2.2.cell 3
  have b4 : V0.cell? ⟨w.heap.size + 1, 4, none⟩ = some (.slice (some ⟨bb, bo, none⟩) nb bk) := S0.out.2.2.cell 4
  go_wp2_with fail
  clear a0 a1 b0 b1 b2 b3 b4
  refine (trainOn40 pa pc ja jc fp fa fw lg nb B (some ⟨bb, bo, none⟩) bk V0 hn hm hnb hpc hpm hjc hjm (H.out.1.mono (Nat.le_refl _) S0.out.1 (Nat.le_refl _)) (H.out.2.1.mono (Nat.le_refl _) S0.out.1 (Nat.le_refl _)) H.out.2.2.1 H.out.2.2.2.1 (H.out.2.2.2.2.mono (Nat.le_refl _) S0.out.1 (Nat.le_refl _))).mono ?_
  rw [HU.out]
  rintro e w1 ⟨kp, y0, y1, y2, y3, ya, yn, yc, rfl, hb1, hon⟩
  have M1 : Hid (Below w.heap.size w w1 ∧ Box w1 (w.heap.size) 40 #[.slice pa v.n pc, .slice ja v.m jc] ∧ Box w1 (w.heap.size + 1) 33 #[.int .i64 fp, .int .i64 fa, .int .i64 fw, .int .i64 lg, .slice (some ⟨bb, bo, none⟩) nb bk]) := ⟨S0.out.1.trans (hb1.mono S0.out.1.size), S0.out.2.1.mono hb1 (Nat.le_refl _), S0.out.2.2.mono hb1 (Nat.le_refl _)⟩
  have HON : Hid (u = true → (y0 = fp ∧ y1 = fa ∧ y2 = fw ∧ y3 = lg ∧ ya = some ⟨bb, bo, none⟩ ∧ yn = nb ∧ yc = bk) ∧ ∃ bt sb, kp = some ⟨bt, 0, none⟩ ∧ TkAt w1 bt sb v pa pc ja jc) := hon
  clear hb1 S0 hon
  have M2 : Hid (Below w.heap.size w (w1.alloc (.cells #[.int .i64 y0, .int .i64 y1, .int .i64 y2, .int .i64 y3, .slice ya yn yc] 90)) ∧ Box (w1.alloc (.cells #[.int .i64 y0, .int .i64 y1, .int .i64 y2, .int .i64 y3, .slice ya yn yc] 90)) (w.heap.size) 40 #[.slice pa v.n pc, .slice ja v.m jc] ∧ Box (w1.alloc (.cells #[.int .i64 y0, .int .i64 y1, .int .i64 y2, .int .i64 y3, .slice ya yn yc] 90)) (w.heap.size + 1) 33 #[.int .i64 fp, .int .i64 fa, .int .i64 fw, .int .i64 lg, .slice (some ⟨bb, bo, none⟩) nb bk] ∧ Box (w1.alloc (.cells #[.int .i64 y0, .int .i64 y1, .int .i64 y2, .int .i64 y3, .slice ya yn yc] 90)) w1.heap.size 90 #[.int .i64 y0, .int .i64 y1, .int .i64 y2, .int .i64 y3, .slice ya yn yc]) := ⟨M1.out.1.alloc M1.out.1.size _, M1.out.2.1.alloc _, M1.out.2.2.alloc _, Box.new _ _ _⟩
  clear M1
  go_upto_region 2 with fail
  have HW : Hid (Below w1.heap.size w1 (w1.alloc (.cells #[.int .i64 y0, .int .i64 y1, .int .i64 y2, .int .i64 y3, .slice ya yn yc] 90))) := bel1 _ _
  generalize w1.alloc (.cells #[.int .i64 y0, .int .i64 y1, .int .i64 y2, .int .i64 y3, .slice ya yn yc] 90) = V2 at M2 HW ⊢
  generalize w1.heap.size = kb at M2 ⊢
  cases u with
  | false =>
    go_wp2_with fail
    go_ret
    exact bd_no HU.out rfl M2.out.1
  | true =>
    have HK : Hid (v.Ok ∧ Trn v fp fa fw lg nb B) := tr_ok HU.out
    obtain ⟨⟨e0, e1, e2, e3, rfl, e5, e6⟩, bt, sb, rfl, hTK⟩ := HON.out rfl
    have e0 := e0.symm
    have e1 := e1.symm
    have e2 := e2.symm
    have e3 := e3.symm
    have e5 := e5.symm
    have e6 := e6.symm
    subst e0 e1 e2 e3 e5 e6
    have HTV : Hid (TkAt V2 bt sb v pa pc ja jc) := hTK.mono HW.out (Nat.le_refl _)
    clear hTK HON
    have k0 : V2.cell? ⟨kb, 0, none⟩ = some (.int .i64 fp) := M2.out.2.2.2.cell 0
    have k1 : V2.cell? ⟨kb, 1, none⟩ = some (.int .i64 fa) := M2.out.2.2.2.cell 1
    have k2 : V2.cell? ⟨kb, 2, none⟩ = some (.int .i64 fw) := M2.out.2.2.2.cell 2
    have k3 : V2.cell? ⟨kb, 3, none⟩ = some (.int .i64 lg) := M2.out.2.2.2.cell 3
    have k4 : V2.cell? ⟨kb, 4, none⟩ = some (.slice (some ⟨bb, bo, none⟩) nb bk) := M2.out.2.2.2.cell 4
    go_wp2_with fail
    clear k0 k1 k2 k3 k4
    refine (parts31 HK.out.1 fp fa fw lg nb B bb bo bk V2 HTV.out HK.out.2 (H.out.2.2.2.2.mono (Nat.le_refl _) M2.out.1 (Nat.le_refl _))).mono ?_
    rintro e w3 ⟨a2, c2, rfl, ho, hb2⟩
    have M3 : Hid (Below w.heap.size w w3 ∧ VOwn w.heap.size 112 3 w3 (.slice a2 (nb + 1 - noF v fp fa fw B) c2) (nb + 1 - noF v fp fa fw B) (intF (prF v (stG v fp fa fw lg nb B)))) := ⟨M2.out.1.trans (hb2.mono M2.out.1.size), ho.keep M2.out.1.size fun _ _ => rfl⟩
    clear hb2 ho M2
    go_wp2_with fail
    go_ret
    exact bd_yes HU.out rfl M3.out.2 M3.out.1

end Go.Proofs.YtjhmaofjmalglaaGreat
