import Derived.Test.YtjhmaofjmalglaaGreatZbt
import Derived.Test.YtjhmaofjmalglaaGreatZbi
import Derived.Test.YtjhmaofjmalglaaGreatZbg
import Derived.Test.YtjhmaofjmalglaaGreatZbh
namespace Go.Proofs.YtjhmaofjmalglaaGreat
open Go.RowKit Go.Lib
theorem Fr.putn {X : Nat → Prop} {q : Nat} {w W : World} (h : Fr X w W) (hq : w.heap.size ≤ q) (j : Nat) (u : Value) : Fr X w (W.setCell ⟨q, j, none⟩ u) :=
 ⟨h.os, h.tape, h.output, by rw [size_setc]; exact h.size, fun k hk hx => (Below.heap_setCell W _ u k (by show k ≠ q; omega)).trans (h.block k hk hx)⟩
set_option maxRecDepth 100000 in
set_option maxHeartbeats 16000000 in
theorem advance116 {v : Nv} (ok : v.Ok) {bt sb : Nat} {pa : Option Addr} {pc : Nat} {ja : Option Addr} {jc : Nat} (bq fp : Nat) (fa fw lg d fa1 : Int) (bg bo nb bk : Nat) (B : Nat → Nat → Int) (la : Option Addr) (lc : Nat) (w0 w : World) (h : TkAt w0 bt sb v pa pc ja jc) (hb0 : Below w0.heap.size w0 w) (hq : w0.heap.size ≤ bq) (hfp : fp < v.n) (hfa : 0 ≤ fa ∧ fa ≤ (v.P fp).ln) (hfw : fw = 1 ∨ fw = -1) (hd : 0 ≤ d ∧ farI (v.P fp).ln fa fw + d ≤ (v.P fp).ln) (hf1 : farI (v.P fp).ln (farI (v.P fp).ln fa fw + d) fw = fa1) (hsp : spotB v (fp : Int) fa1 fw = true) (hlg : 1 ≤ lg ∧ lg ≤ 100000) (hnb : nb ≤ 200) (hbk : nb ≤ bk) (hst : ∀ i, i < nb → stepB v (B i 0) (B i 1) = true) (hB : Lst w bg bo nb B) (hgq : ¬ bg = bq) (hz : ndN (hvF v (fp : Int) fa1 fw B) lg nb ≤ nb) (hbox : Box w bq 90 #[.int .i64 (fp : Int), .int .i64 fa, .int .i64 fw, .int .i64 lg, .slice (some ⟨bg, bo, none⟩) nb bk]) :
  Calls Tryz.prog 116 #[.agg #[.pointer (some ⟨bt, 0, none⟩), .slice la v.m lc], .pointer (some ⟨bq, 0, none⟩), .int .i64 d] w fun e w' => e = .returned (.agg #[.int .i64 (fp : Int), .int .i64 (pfA (v.P fp).ln fw (farI (v.P fp).ln fa fw) (farI (v.P fp).ln fa fw + d)), .int .i64 (pfB (v.P fp).ln fw (farI (v.P fp).ln fa fw) (farI (v.P fp).ln fa fw + d))]) ∧ Fr (fun x => x = bq) w w' ∧ Box w' bq 90 #[.int .i64 (fp : Int), .int .i64 fa1, .int .i64 fw, .int .i64 lg, .slice (some ⟨bg, bo, none⟩) (ndN (hvF v (fp : Int) fa1 fw B) lg nb) bk] := by
 have hln := ok.ln fp hfp
 have H : Hid (v.Ok ∧ TkAt w0 bt sb v pa pc ja jc ∧ spotB v (fp : Int) fa1 fw = true ∧ Lst w bg bo nb B ∧ (∀ i, i < nb → stepB v (B i 0) (B i 1) = true) ∧ ndN (hvF v (fp : Int) fa1 fw B) lg nb ≤ nb) := ⟨ok, h, hsp, hB, hst, hz⟩
 have HB0 : Hid (w0.heap.size ≤ bq ∧ Below w0.heap.size w0 w) := ⟨hq, hb0⟩
 have HGQ : Hid (¬ bg = bq) := hgq
 have hal0 : 0 ≤ farI (v.P fp).ln fa fw ∧ farI (v.P fp).ln fa fw ≤ (v.P fp).ln := by unfold farI; split <;> omega
 have HFW : Hid (fw = 1 ∨ fw = -1) := hfw
 obtain ⟨al, HAL⟩ : ∃ q, Hid (farI (v.P fp).ln fa fw = q) := ⟨_, rfl⟩
 rw [HAL.out] at hal0 hd hf1 ⊢
 have HF1 : Hid (farI (v.P fp).ln (al + d) fw = fa1) := hf1
 obtain ⟨ln, HLN⟩ : ∃ q, Hid ((v.P fp).ln = q) := ⟨_, rfl⟩
 rw [HLN.out] at hal0 hd hfa hln
 have S0 : Hid (Below w0.heap.size w0 ((w.alloc (.cells #[.pointer (some ⟨bt, 0, none⟩), .slice la v.m lc] 87)).alloc (.cells #[.int .i64 0, .int .i64 0, .int .i64 0] 112)) ∧ Fr (fun x => x = bq) w ((w.alloc (.cells #[.pointer (some ⟨bt, 0, none⟩), .slice la v.m lc] 87)).alloc (.cells #[.int .i64 0, .int .i64 0, .int .i64 0] 112)) ∧ Box ((w.alloc (.cells #[.pointer (some ⟨bt, 0, none⟩), .slice la v.m lc] 87)).alloc (.cells #[.int .i64 0, .int .i64 0, .int .i64 0] 112)) (w.heap.size) 87 #[.pointer (some ⟨bt, 0, none⟩), .slice la v.m lc] ∧ Box ((w.alloc (.cells #[.pointer (some ⟨bt, 0, none⟩), .slice la v.m lc] 87)).alloc (.cells #[.int .i64 0, .int .i64 0, .int .i64 0] 112)) (w.heap.size + 1) 112 #[.int .i64 0, .int .i64 0, .int .i64 0] ∧ Box ((w.alloc (.cells #[.pointer (some ⟨bt, 0, none⟩), .slice la v.m lc] 87)).alloc (.cells #[.int .i64 0, .int .i64 0, .int .i64 0] 112)) (bq) 90 #[.int .i64 (fp : Int), .int .i64 fa, .int .i64 fw, .int .i64 lg, .slice (some ⟨bg, bo, none⟩) nb bk]) := ⟨hb0.trans ((bel2 _ _ _).mono hb0.size), Fr.of_below (bel2 _ _ _), (Box.new _ _ _).alloc _, by have := Box.new (w.alloc (.cells #[.pointer (some ⟨bt, 0, none⟩), .slice la v.m lc] 87)) 112 #[.int .i64 0, .int .i64 0, .int .i64 0]; simpa using this, (hbox.alloc _).alloc _⟩
 clear ok h hsp hB hst hz hb0 hq hgq hfw hf1 hbox
 go_enter Tryz.func116, Tryz.ntmps116
 go_upto_region 1 with fail
 generalize ((w.alloc (.cells #[.pointer (some ⟨bt, 0, none⟩), .slice la v.m lc] 87)).alloc (.cells #[.int .i64 0, .int .i64 0, .int .i64 0] 112)) = V0 at S0 ⊢
 have m0 := S0.out.2.2.2.2.cel 0
 have m1 := S0.out.2.2.2.2.cel 1
 have m2 := S0.out.2.2.2.2.cel 2
 have m3 := S0.out.2.2.2.2.cel 3
 have m4 := S0.out.2.2.2.2.cel 4
 go_wp2_with fail
 refine (step79 (fp : Int) fa fw _).mono ?_
 rintro e w1 ⟨rfl, hb⟩
 have S1 : Hid (Below w0.heap.size w0 w1 ∧ Fr (fun x => x = bq) w w1 ∧ Box w1 (w.heap.size) 87 #[.pointer (some ⟨bt, 0, none⟩), .slice la v.m lc] ∧ Box w1 (w.heap.size + 1) 112 #[.int .i64 0, .int .i64 0, .int .i64 0] ∧ Box w1 (bq) 90 #[.int .i64 (fp : Int), .int .i64 fa, .int .i64 fw, .int .i64 lg, .slice (some ⟨bg, bo, none⟩) nb bk]) := ⟨S0.out.1.trans (hb.mono S0.out.1.size), S0.out.2.1.trans (Fr.of_below hb), S0.out.2.2.1.mono hb nr, S0.out.2.2.2.1.mono hb nr, S0.out.2.2.2.2.mono hb nr⟩
 clear m0 m1 m2 m3 m4 hb S0
 have S2 : Hid (Below w0.heap.size w0 (w1.alloc (.cells #[.int .i64 (fp : Int), .int .i64 fw] 74)) ∧ Fr (fun x => x = bq) w (w1.alloc (.cells #[.int .i64 (fp : Int), .int .i64 fw] 74)) ∧ Box (w1.alloc (.cells #[.int .i64 (fp : Int), .int .i64 fw] 74)) (w.heap.size) 87 #[.pointer (some ⟨bt, 0, none⟩), .slice la v.m lc] ∧ Box (w1.alloc (.cells #[.int .i64 (fp : Int), .int .i64 fw] 74)) (w.heap.size + 1) 112 #[.int .i64 0, .int .i64 0, .int .i64 0] ∧ Box (w1.alloc (.cells #[.int .i64 (fp : Int), .int .i64 fw] 74)) (bq) 90 #[.int .i64 (fp : Int), .int .i64 fa, .int .i64 fw, .int .i64 lg, .slice (some ⟨bg, bo, none⟩) nb bk] ∧ Box (w1.alloc (.cells #[.int .i64 (fp : Int), .int .i64 fw] 74)) (w1.heap.size) 74 #[.int .i64 (fp : Int), .int .i64 fw]) := ⟨S1.out.1.alloc S1.out.1.size _, S1.out.2.1.trans (Fr.of_below (bel1 _ _)), S1.out.2.2.1.alloc _, S1.out.2.2.2.1.alloc _, S1.out.2.2.2.2.alloc _, Box.new _ _ _⟩
 have HL109 : Hid (w0.heap.size ≤ w1.heap.size) := S1.out.1.size
 clear S1
 go_upto_region 2 with fail
 generalize w1.alloc (.cells #[.int .i64 (fp : Int), .int .i64 fw] 74) = V2 at S2 ⊢
 generalize w1.heap.size = nq at S2 HL109 ⊢
 have x0 := S2.out.2.2.1.cel 0
 have m1 := S2.out.2.2.2.2.1.cel 1
 have n0 := S2.out.2.2.2.2.2.cel 0
 have n1 := S2.out.2.2.2.2.2.cel 1
 go_wp2_with fail
 refine wp_region_held_drew (S := (fun wx : World => wx.cell? ⟨w.heap.size, 0, none⟩ = some (.pointer (some ⟨bt, 0, none⟩)) ∧ wx.cell? ⟨bq, 1, none⟩ = some (.int .i64 fa) ∧ wx.cell? ⟨nq, 0, none⟩ = some (.int .i64 (fp : Int)) ∧ wx.cell? ⟨nq, 1, none⟩ = some (.int .i64 fw))) (by kernel_rfl) ?_ (fun hHeld => ?_)
 ·
  exact ⟨x0, m1, n0, n1⟩
 have MD110 : Hid (Below w0.heap.size w0 V2.drew ∧ Fr (fun x => x = bq) w V2.drew ∧ Box V2.drew (w.heap.size) 87 #[.pointer (some ⟨bt, 0, none⟩), .slice la v.m lc] ∧ Box V2.drew (w.heap.size + 1) 112 #[.int .i64 0, .int .i64 0, .int .i64 0] ∧ Box V2.drew (bq) 90 #[.int .i64 (fp : Int), .int .i64 fa, .int .i64 fw, .int .i64 lg, .slice (some ⟨bg, bo, none⟩) nb bk] ∧ Box V2.drew (nq) 74 #[.int .i64 (fp : Int), .int .i64 fw]) := ⟨S2.out.1.drew, S2.out.2.1.drew, S2.out.2.2.1.drew, S2.out.2.2.2.1.drew, S2.out.2.2.2.2.1.drew, S2.out.2.2.2.2.2.drew⟩
 clear x0 m1 n0 n1 S2
 generalize V2.drew = VD at MD110 hHeld ⊢
 refine tk 0 ?_
 refine tk 1 ?_
 refine tk 2 ?_
 refine tk 3 ?_
 refine tk 4 ?_
 refine tk 5 ?_
 refine tk 6 ?_
 refine tk 7 ?_
 refine rl 8 fun K hK => ?_
 go_simp
 refine (along98 H.out.1 fp fw fa _ (H.out.2.1.mono MD110.out.1 nr) hfp ⟨hfa.1, by omega⟩).mono ?_
 rintro e w3 ⟨he, hb⟩
 rw [HAL.out] at he
 subst he
 have S3 : Hid (Below w0.heap.size w0 w3 ∧ Fr (fun x => x = bq) w w3 ∧ Box w3 (w.heap.size) 87 #[.pointer (some ⟨bt, 0, none⟩), .slice la v.m lc] ∧ Box w3 (w.heap.size + 1) 112 #[.int .i64 0, .int .i64 0, .int .i64 0] ∧ Box w3 (bq) 90 #[.int .i64 (fp : Int), .int .i64 fa, .int .i64 fw, .int .i64 lg, .slice (some ⟨bg, bo, none⟩) nb bk] ∧ Box w3 (nq) 74 #[.int .i64 (fp : Int), .int .i64 fw]) := ⟨MD110.out.1.trans (hb.mono MD110.out.1.size), MD110.out.2.1.trans (Fr.of_below hb), MD110.out.2.2.1.mono hb nr, MD110.out.2.2.2.1.mono hb nr, MD110.out.2.2.2.2.1.mono hb nr, MD110.out.2.2.2.2.2.mono hb nr⟩
 clear hb MD110
 go_wp2_with fail
 refine hK.out _ _ ?_ (fun hHeld => ?_)
 ·
  exact ⟨S3.out.2.2.1.cell 0, S3.out.2.2.2.2.1.cell 1, S3.out.2.2.2.2.2.cell 0, S3.out.2.2.2.2.2.cell 1⟩
 clear hK K
 refine tk 9 ?_
 refine wpAnyH_done (by kernel_rfl) ?_ _
 clear hHeld
 have x0 := S3.out.2.2.1.cel 0
 have n0 := S3.out.2.2.2.2.2.cel 0
 have n1 := S3.out.2.2.2.2.2.cel 1
 go_wp2_with fail
 refine (spot76 H.out.1 fp fw (al + d) _ (H.out.2.1.mono S3.out.1 nr) hfp ⟨by omega, by omega⟩).mono ?_
 rintro e w4 ⟨he, hb⟩
 rw [HF1.out] at he
 subst he
 have S4 : Hid (Below w0.heap.size w0 w4 ∧ Fr (fun x => x = bq) w w4 ∧ Box w4 (w.heap.size) 87 #[.pointer (some ⟨bt, 0, none⟩), .slice la v.m lc] ∧ Box w4 (w.heap.size + 1) 112 #[.int .i64 0, .int .i64 0, .int .i64 0] ∧ Box w4 (bq) 90 #[.int .i64 (fp : Int), .int .i64 fa, .int .i64 fw, .int .i64 lg, .slice (some ⟨bg, bo, none⟩) nb bk] ∧ Box w4 (nq) 74 #[.int .i64 (fp : Int), .int .i64 fw]) := ⟨S3.out.1.trans (hb.mono S3.out.1.size), S3.out.2.1.trans (Fr.of_below hb), S3.out.2.2.1.mono hb nr, S3.out.2.2.2.1.mono hb nr, S3.out.2.2.2.2.1.mono hb nr, S3.out.2.2.2.2.2.mono hb nr⟩
 clear x0 n0 n1 hb S3
 have m0 := S4.out.2.2.2.2.1.cel 0
 have m1 := S4.out.2.2.2.2.1.cel 1
 have m2 := S4.out.2.2.2.2.1.cel 2
 have m3 := S4.out.2.2.2.2.1.cel 3
 have m4 := S4.out.2.2.2.2.1.cel 4
 have mf0 := S4.out.2.2.2.2.1.free 0
 have mf1 := S4.out.2.2.2.2.1.free 1
 have mf2 := S4.out.2.2.2.2.1.free 2
 have mf3 := S4.out.2.2.2.2.1.free 3
 have mf4 := S4.out.2.2.2.2.1.free 4
 have S5 : Hid (Below w0.heap.size w0 (((w4.setCell ⟨bq, 0, none⟩ (.int .i64 (fp : Int))).setCell ⟨bq, 1, none⟩ (.int .i64 fa1)).setCell ⟨bq, 2, none⟩ (.int .i64 fw)) ∧ Fr (fun x => x = bq) w (((w4.setCell ⟨bq, 0, none⟩ (.int .i64 (fp : Int))).setCell ⟨bq, 1, none⟩ (.int .i64 fa1)).setCell ⟨bq, 2, none⟩ (.int .i64 fw)) ∧ Box (((w4.setCell ⟨bq, 0, none⟩ (.int .i64 (fp : Int))).setCell ⟨bq, 1, none⟩ (.int .i64 fa1)).setCell ⟨bq, 2, none⟩ (.int .i64 fw)) (w.heap.size) 87 #[.pointer (some ⟨bt, 0, none⟩), .slice la v.m lc] ∧ Box (((w4.setCell ⟨bq, 0, none⟩ (.int .i64 (fp : Int))).setCell ⟨bq, 1, none⟩ (.int .i64 fa1)).setCell ⟨bq, 2, none⟩ (.int .i64 fw)) (w.heap.size + 1) 112 #[.int .i64 0, .int .i64 0, .int .i64 0] ∧ Box (((w4.setCell ⟨bq, 0, none⟩ (.int .i64 (fp : Int))).setCell ⟨bq, 1, none⟩ (.int .i64 fa1)).setCell ⟨bq, 2, none⟩ (.int .i64 fw)) (bq) 90 #[.int .i64 (fp : Int), .int .i64 fa1, .int .i64 fw, .int .i64 lg, .slice (some ⟨bg, bo, none⟩) nb bk] ∧ Box (((w4.setCell ⟨bq, 0, none⟩ (.int .i64 (fp : Int))).setCell ⟨bq, 1, none⟩ (.int .i64 fa1)).setCell ⟨bq, 2, none⟩ (.int .i64 fw)) (nq) 74 #[.int .i64 (fp : Int), .int .i64 fw]) := ⟨(((S4.out.1.setCell HB0.out.1 _).setCell HB0.out.1 _).setCell HB0.out.1 _), (((S4.out.2.1.put 0 _).put 1 _).put 2 _), (((S4.out.2.2.1.other (box_ne S4.out.2.2.1 S4.out.2.2.2.2.1 (by decide)) _).other (box_ne S4.out.2.2.1 S4.out.2.2.2.2.1 (by decide)) _).other (box_ne S4.out.2.2.1 S4.out.2.2.2.2.1 (by decide)) _), (((S4.out.2.2.2.1.other (box_ne S4.out.2.2.2.1 S4.out.2.2.2.2.1 (by decide)) _).other (box_ne S4.out.2.2.2.1 S4.out.2.2.2.2.1 (by decide)) _).other (box_ne S4.out.2.2.2.1 S4.out.2.2.2.2.1 (by decide)) _), by have h9 := (((S4.out.2.2.2.2.1.set 0 (.int .i64 (fp : Int))).set 1 (.int .i64 fa1)).set 2 (.int .i64 fw)); exact h9, (((S4.out.2.2.2.2.2.other (box_ne S4.out.2.2.2.2.2 S4.out.2.2.2.2.1 (by decide)) _).other (box_ne S4.out.2.2.2.2.2 S4.out.2.2.2.2.1 (by decide)) _).other (box_ne S4.out.2.2.2.2.2 S4.out.2.2.2.2.1 (by decide)) _)⟩
 clear S4
 go_upto_region 4 with fail
 clear m0 m1 m2 m3 m4 mf0 mf1 mf2 mf3 mf4
 generalize (((w4.setCell ⟨bq, 0, none⟩ (.int .i64 (fp : Int))).setCell ⟨bq, 1, none⟩ (.int .i64 fa1)).setCell ⟨bq, 2, none⟩ (.int .i64 fw)) = W5 at S5 ⊢
 have x0 := S5.out.2.2.1.cel 0
 have x1 := S5.out.2.2.1.cel 1
 go_wp2_with fail
 refine wp_region_held_drew (S := (fun wx : World => wx.cell? ⟨w.heap.size, 0, none⟩ = some (.pointer (some ⟨bt, 0, none⟩)) ∧ wx.cell? ⟨w.heap.size, 1, none⟩ = some (.slice la v.m lc))) (by kernel_rfl) ?_ (fun hHeld => ?_)
 ·
  exact ⟨x0, x1⟩
 have MD111 : Hid (Below w0.heap.size w0 W5.drew ∧ Fr (fun x => x = bq) w W5.drew ∧ Box W5.drew (w.heap.size) 87 #[.pointer (some ⟨bt, 0, none⟩), .slice la v.m lc] ∧ Box W5.drew (w.heap.size + 1) 112 #[.int .i64 0, .int .i64 0, .int .i64 0] ∧ Box W5.drew (bq) 90 #[.int .i64 (fp : Int), .int .i64 fa1, .int .i64 fw, .int .i64 lg, .slice (some ⟨bg, bo, none⟩) nb bk] ∧ Box W5.drew (nq) 74 #[.int .i64 (fp : Int), .int .i64 fw]) := ⟨S5.out.1.drew, S5.out.2.1.drew, S5.out.2.2.1.drew, S5.out.2.2.2.1.drew, S5.out.2.2.2.2.1.drew, S5.out.2.2.2.2.2.drew⟩
 clear x0 x1 S5
 generalize W5.drew = VD5 at MD111 hHeld ⊢
 refine tk 0 ?_
 refine tk 1 ?_
 refine tk 2 ?_
 refine tk 3 ?_
 refine tk 5 ?_
 refine tk 6 ?_
 refine tk 7 ?_
 refine tk 8 ?_
 refine ready2_lit (i := 4) (j := 9) (by kernel_rfl) rfl rfl (fun K hK => ?_) (fun K hK => ?_)
 ·
  have m0 : VD5.cell? ⟨bq, 0, none⟩ = some (.int .i64 (fp : Int)) := MD111.out.2.2.2.2.1.cell 0
  have m1 := MD111.out.2.2.2.2.1.cel 1
  have m2 := MD111.out.2.2.2.2.1.cel 2
  have m3 := MD111.out.2.2.2.2.1.cel 3
  have m4 := MD111.out.2.2.2.2.1.cel 4
  go_simp
  refine hK.out _ _ ?_ (fun hHeld => ?_)
  ·
   exact ⟨MD111.out.2.2.1.cell 0, MD111.out.2.2.1.cell 1⟩
  clear hK K
  clear m0 m1 m2 m3 m4
  refine rl 9 fun K hK => ?_
  have m0 := MD111.out.2.2.2.2.1.cel 0
  have m1 := MD111.out.2.2.2.2.1.cel 1
  have m2 := MD111.out.2.2.2.2.1.cel 2
  have m3 := MD111.out.2.2.2.2.1.cel 3
  have m4 := MD111.out.2.2.2.2.1.cel 4
  go_simp
  refine hK.out _ _ ?_ (fun hHeld => ?_)
  ·
   exact ⟨MD111.out.2.2.1.cell 0, MD111.out.2.2.1.cell 1⟩
  clear hK K
  clear m0 m1 m2 m3 m4
  refine rl 10 fun K hK => ?_
  go_simp
  refine (needs45 H.out.1 (fp : Int) fa1 fw lg nb B (some ⟨bg, bo, none⟩) bk _ (H.out.2.1.mono MD111.out.1 nr) H.out.2.2.1 hlg hnb (H.out.2.2.2.1.fr MD111.out.2.1 HGQ.out).ns H.out.2.2.2.2.1).mono ?_
  rintro e wn112 ⟨zz, rfl, hz1, hz2, hz3, hb⟩
  have HZ : Hid (ndN (hvF v (fp : Int) fa1 fw B) lg nb = zz) := ndN_is hz1 hz2 hz3
  have hzn : zz ≤ nb := by rw [← HZ.out]; exact H.out.2.2.2.2.2
  have hzb : zz ≤ bk := by omega
  clear hz1 hz2 hz3
  have MA113 : Hid (Below w0.heap.size w0 wn112 ∧ Fr (fun x => x = bq) w wn112 ∧ Box wn112 (w.heap.size) 87 #[.pointer (some ⟨bt, 0, none⟩), .slice la v.m lc] ∧ Box wn112 (w.heap.size + 1) 112 #[.int .i64 0, .int .i64 0, .int .i64 0] ∧ Box wn112 (bq) 90 #[.int .i64 (fp : Int), .int .i64 fa1, .int .i64 fw, .int .i64 lg, .slice (some ⟨bg, bo, none⟩) nb bk] ∧ Box wn112 (nq) 74 #[.int .i64 (fp : Int), .int .i64 fw]) := ⟨MD111.out.1.trans (hb.mono MD111.out.1.size), MD111.out.2.1.trans (Fr.of_below hb), MD111.out.2.2.1.mono hb nr, MD111.out.2.2.2.1.mono hb nr, MD111.out.2.2.2.2.1.mono hb nr, MD111.out.2.2.2.2.2.mono hb nr⟩
  clear hb MD111
  go_wp2_with fail
  refine hK.out _ _ ?_ (fun hHeld => ?_)
  ·
   exact ⟨MA113.out.2.2.1.cell 0, MA113.out.2.2.1.cell 1⟩
  clear hK K
  refine tk 11 ?_
  refine tk 12 ?_
  refine tk 13 ?_
  have m0 := MA113.out.2.2.2.2.1.cel 0
  have m1 := MA113.out.2.2.2.2.1.cel 1
  have m2 := MA113.out.2.2.2.2.1.cel 2
  have m3 := MA113.out.2.2.2.2.1.cel 3
  have m4 := MA113.out.2.2.2.2.1.cel 4
  have mf0 := MA113.out.2.2.2.2.1.free 0
  have mf1 := MA113.out.2.2.2.2.1.free 1
  have mf2 := MA113.out.2.2.2.2.1.free 2
  have mf3 := MA113.out.2.2.2.2.1.free 3
  have mf4 := MA113.out.2.2.2.2.1.free 4
  have S8 : Hid (Below w0.heap.size w0 (wn112.setCell ⟨bq, 4, none⟩ (.slice (some ⟨bg, bo, none⟩) zz bk)) ∧ Fr (fun x => x = bq) w (wn112.setCell ⟨bq, 4, none⟩ (.slice (some ⟨bg, bo, none⟩) zz bk)) ∧ Box (wn112.setCell ⟨bq, 4, none⟩ (.slice (some ⟨bg, bo, none⟩) zz bk)) (w.heap.size) 87 #[.pointer (some ⟨bt, 0, none⟩), .slice la v.m lc] ∧ Box (wn112.setCell ⟨bq, 4, none⟩ (.slice (some ⟨bg, bo, none⟩) zz bk)) (w.heap.size + 1) 112 #[.int .i64 0, .int .i64 0, .int .i64 0] ∧ Box (wn112.setCell ⟨bq, 4, none⟩ (.slice (some ⟨bg, bo, none⟩) zz bk)) (bq) 90 #[.int .i64 (fp : Int), .int .i64 fa1, .int .i64 fw, .int .i64 lg, .slice (some ⟨bg, bo, none⟩) zz bk] ∧ Box (wn112.setCell ⟨bq, 4, none⟩ (.slice (some ⟨bg, bo, none⟩) zz bk)) (nq) 74 #[.int .i64 (fp : Int), .int .i64 fw]) := ⟨(MA113.out.1.setCell HB0.out.1 _), (MA113.out.2.1.put 4 _), (MA113.out.2.2.1.other (box_ne MA113.out.2.2.1 MA113.out.2.2.2.2.1 (by decide)) _), (MA113.out.2.2.2.1.other (box_ne MA113.out.2.2.2.1 MA113.out.2.2.2.2.1 (by decide)) _), by have h9 := (MA113.out.2.2.2.2.1.set 4 (.slice (some ⟨bg, bo, none⟩) zz bk)); exact h9, (MA113.out.2.2.2.2.2.other (box_ne MA113.out.2.2.2.2.2 MA113.out.2.2.2.2.1 (by decide)) _)⟩
  clear MA113
  refine rl 14 fun K hK => ?_
  go_simp
  refine hK.out _ _ ?_ (fun hHeld => ?_)
  ·
   exact ⟨S8.out.2.2.1.cell 0, S8.out.2.2.1.cell 1⟩
  clear hK K
  refine wpAnyH_done (by kernel_rfl) ?_ _
  clear m0 m1 m2 m3 m4 mf0 mf1 mf2 mf3 mf4 hHeld
  generalize (wn112.setCell ⟨bq, 4, none⟩ (.slice (some ⟨bg, bo, none⟩) zz bk)) = W8 at S8 ⊢
  have x0 := S8.out.2.2.1.cel 0
  have n0 := S8.out.2.2.2.2.2.cel 0
  have n1 := S8.out.2.2.2.2.2.cel 1
  go_wp2_with fail
  refine (part94 H.out.1 fp fw al (al + d) _ (H.out.2.1.mono S8.out.1 nr) hfp HFW.out ⟨by omega, by omega⟩ ⟨by omega, by omega⟩).mono ?_
  rintro e w9 ⟨rfl, hb⟩
  have S9 : Hid (Below w0.heap.size w0 w9 ∧ Fr (fun x => x = bq) w w9 ∧ Box w9 (w.heap.size) 87 #[.pointer (some ⟨bt, 0, none⟩), .slice la v.m lc] ∧ Box w9 (w.heap.size + 1) 112 #[.int .i64 0, .int .i64 0, .int .i64 0] ∧ Box w9 (bq) 90 #[.int .i64 (fp : Int), .int .i64 fa1, .int .i64 fw, .int .i64 lg, .slice (some ⟨bg, bo, none⟩) zz bk] ∧ Box w9 (nq) 74 #[.int .i64 (fp : Int), .int .i64 fw]) := ⟨S8.out.1.trans (hb.mono S8.out.1.size), S8.out.2.1.trans (Fr.of_below hb), S8.out.2.2.1.mono hb nr, S8.out.2.2.2.1.mono hb nr, S8.out.2.2.2.2.1.mono hb nr, S8.out.2.2.2.2.2.mono hb nr⟩
  clear x0 n0 n1 hb S8
  have z0 := S9.out.2.2.2.1.cel 0
  have z1 := S9.out.2.2.2.1.cel 1
  have z2 := S9.out.2.2.2.1.cel 2
  have zf0 := S9.out.2.2.2.1.free 0
  have zf1 := S9.out.2.2.2.1.free 1
  have zf2 := S9.out.2.2.2.1.free 2
  have MA114 : Hid (Below w0.heap.size w0 (((w9.setCell ⟨w.heap.size + 1, 0, none⟩ (.int .i64 (fp : Int))).setCell ⟨w.heap.size + 1, 1, none⟩ (.int .i64 (pfA (v.P fp).ln fw al (al + d)))).setCell ⟨w.heap.size + 1, 2, none⟩ (.int .i64 (pfB (v.P fp).ln fw al (al + d)))) ∧ Fr (fun x => x = bq) w (((w9.setCell ⟨w.heap.size + 1, 0, none⟩ (.int .i64 (fp : Int))).setCell ⟨w.heap.size + 1, 1, none⟩ (.int .i64 (pfA (v.P fp).ln fw al (al + d)))).setCell ⟨w.heap.size + 1, 2, none⟩ (.int .i64 (pfB (v.P fp).ln fw al (al + d)))) ∧ Box (((w9.setCell ⟨w.heap.size + 1, 0, none⟩ (.int .i64 (fp : Int))).setCell ⟨w.heap.size + 1, 1, none⟩ (.int .i64 (pfA (v.P fp).ln fw al (al + d)))).setCell ⟨w.heap.size + 1, 2, none⟩ (.int .i64 (pfB (v.P fp).ln fw al (al + d)))) (w.heap.size) 87 #[.pointer (some ⟨bt, 0, none⟩), .slice la v.m lc] ∧ Box (((w9.setCell ⟨w.heap.size + 1, 0, none⟩ (.int .i64 (fp : Int))).setCell ⟨w.heap.size + 1, 1, none⟩ (.int .i64 (pfA (v.P fp).ln fw al (al + d)))).setCell ⟨w.heap.size + 1, 2, none⟩ (.int .i64 (pfB (v.P fp).ln fw al (al + d)))) (w.heap.size + 1) 112 #[.int .i64 (fp : Int), .int .i64 (pfA (v.P fp).ln fw al (al + d)), .int .i64 (pfB (v.P fp).ln fw al (al + d))] ∧ Box (((w9.setCell ⟨w.heap.size + 1, 0, none⟩ (.int .i64 (fp : Int))).setCell ⟨w.heap.size + 1, 1, none⟩ (.int .i64 (pfA (v.P fp).ln fw al (al + d)))).setCell ⟨w.heap.size + 1, 2, none⟩ (.int .i64 (pfB (v.P fp).ln fw al (al + d)))) (bq) 90 #[.int .i64 (fp : Int), .int .i64 fa1, .int .i64 fw, .int .i64 lg, .slice (some ⟨bg, bo, none⟩) zz bk] ∧ Box (((w9.setCell ⟨w.heap.size + 1, 0, none⟩ (.int .i64 (fp : Int))).setCell ⟨w.heap.size + 1, 1, none⟩ (.int .i64 (pfA (v.P fp).ln fw al (al + d)))).setCell ⟨w.heap.size + 1, 2, none⟩ (.int .i64 (pfB (v.P fp).ln fw al (al + d)))) (nq) 74 #[.int .i64 (fp : Int), .int .i64 fw]) := ⟨(((S9.out.1.setCell (Nat.le_trans HB0.out.2.size (Nat.le_succ _)) _).setCell (Nat.le_trans HB0.out.2.size (Nat.le_succ _)) _).setCell (Nat.le_trans HB0.out.2.size (Nat.le_succ _)) _), (((S9.out.2.1.putn (Nat.le_succ _) 0 _).putn (Nat.le_succ _) 1 _).putn (Nat.le_succ _) 2 _), (((S9.out.2.2.1.other (box_ne S9.out.2.2.1 S9.out.2.2.2.1 (by decide)) _).other (box_ne S9.out.2.2.1 S9.out.2.2.2.1 (by decide)) _).other (box_ne S9.out.2.2.1 S9.out.2.2.2.1 (by decide)) _), by have h9 := (((S9.out.2.2.2.1.set 0 (.int .i64 (fp : Int))).set 1 (.int .i64 (pfA (v.P fp).ln fw al (al + d)))).set 2 (.int .i64 (pfB (v.P fp).ln fw al (al + d)))); exact h9, (((S9.out.2.2.2.2.1.other (box_ne S9.out.2.2.2.2.1 S9.out.2.2.2.1 (by decide)) _).other (box_ne S9.out.2.2.2.2.1 S9.out.2.2.2.1 (by decide)) _).other (box_ne S9.out.2.2.2.2.1 S9.out.2.2.2.1 (by decide)) _), (((S9.out.2.2.2.2.2.other (box_ne S9.out.2.2.2.2.2 S9.out.2.2.2.1 (by decide)) _).other (box_ne S9.out.2.2.2.2.2 S9.out.2.2.2.1 (by decide)) _).other (box_ne S9.out.2.2.2.2.2 S9.out.2.2.2.1 (by decide)) _)⟩
  clear S9
  go_wp2_with fail
  clear z0 z1 z2 zf0 zf1 zf2
  generalize (((w9.setCell ⟨w.heap.size + 1, 0, none⟩ (.int .i64 (fp : Int))).setCell ⟨w.heap.size + 1, 1, none⟩ (.int .i64 (pfA (v.P fp).ln fw al (al + d)))).setCell ⟨w.heap.size + 1, 2, none⟩ (.int .i64 (pfB (v.P fp).ln fw al (al + d)))) = W9 at MA114 ⊢
  have z0 := MA114.out.2.2.2.1.cel 0
  have z1 := MA114.out.2.2.2.1.cel 1
  have z2 := MA114.out.2.2.2.1.cel 2
  exact bodyPost_ret (v := .agg #[.int .i64 (fp : Int), .int .i64 (pfA (v.P fp).ln fw al (al + d)), .int .i64 (pfB (v.P fp).ln fw al (al + d))]) (by simp [results, Tryz.results116, go_sem, z0, z1, z2]) rfl (⟨rfl, MA114.out.2.1, by have h9 := MA114.out.2.2.2.2.1; rw [← HZ.out] at h9; exact h9⟩)
 ·
  have m0 : VD5.cell? ⟨bq, 0, none⟩ = some (.int .i64 (fp : Int)) := MD111.out.2.2.2.2.1.cell 0
  have m1 := MD111.out.2.2.2.2.1.cel 1
  have m2 := MD111.out.2.2.2.2.1.cel 2
  have m3 := MD111.out.2.2.2.2.1.cel 3
  have m4 := MD111.out.2.2.2.2.1.cel 4
  go_simp
  refine hK.out _ _ ?_ (fun hHeld => ?_)
  ·
   exact ⟨MD111.out.2.2.1.cell 0, MD111.out.2.2.1.cell 1⟩
  clear hK K
  clear m0 m1 m2 m3 m4
  refine ready2_lit (i := 4) (j := 10) (by kernel_rfl) rfl rfl (fun K hK => ?_) (fun K hK => ?_)
  ·
   have m0 : VD5.cell? ⟨bq, 0, none⟩ = some (.int .i64 (fp : Int)) := MD111.out.2.2.2.2.1.cell 0
   have m1 := MD111.out.2.2.2.2.1.cel 1
   have m2 := MD111.out.2.2.2.2.1.cel 2
   have m3 := MD111.out.2.2.2.2.1.cel 3
   have m4 := MD111.out.2.2.2.2.1.cel 4
   go_simp
   refine hK.out _ _ ?_ (fun hHeld => ?_)
   ·
    exact ⟨MD111.out.2.2.1.cell 0, MD111.out.2.2.1.cell 1⟩
   clear hK K
   clear m0 m1 m2 m3 m4
   refine rl 10 fun K hK => ?_
   go_simp
   refine (needs45 H.out.1 (fp : Int) fa1 fw lg nb B (some ⟨bg, bo, none⟩) bk _ (H.out.2.1.mono MD111.out.1 nr) H.out.2.2.1 hlg hnb (H.out.2.2.2.1.fr MD111.out.2.1 HGQ.out).ns H.out.2.2.2.2.1).mono ?_
   rintro e wn115 ⟨zz, rfl, hz1, hz2, hz3, hb⟩
   have HZ : Hid (ndN (hvF v (fp : Int) fa1 fw B) lg nb = zz) := ndN_is hz1 hz2 hz3
   have hzn : zz ≤ nb := by rw [← HZ.out]; exact H.out.2.2.2.2.2
   have hzb : zz ≤ bk := by omega
   clear hz1 hz2 hz3
   have MA116 : Hid (Below w0.heap.size w0 wn115 ∧ Fr (fun x => x = bq) w wn115 ∧ Box wn115 (w.heap.size) 87 #[.pointer (some ⟨bt, 0, none⟩), .slice la v.m lc] ∧ Box wn115 (w.heap.size + 1) 112 #[.int .i64 0, .int .i64 0, .int .i64 0] ∧ Box wn115 (bq) 90 #[.int .i64 (fp : Int), .int .i64 fa1, .int .i64 fw, .int .i64 lg, .slice (some ⟨bg, bo, none⟩) nb bk] ∧ Box wn115 (nq) 74 #[.int .i64 (fp : Int), .int .i64 fw]) := ⟨MD111.out.1.trans (hb.mono MD111.out.1.size), MD111.out.2.1.trans (Fr.of_below hb), MD111.out.2.2.1.mono hb nr, MD111.out.2.2.2.1.mono hb nr, MD111.out.2.2.2.2.1.mono hb nr, MD111.out.2.2.2.2.2.mono hb nr⟩
   clear hb MD111
   go_wp2_with fail
   refine hK.out _ _ ?_ (fun hHeld => ?_)
   ·
    exact ⟨MA116.out.2.2.1.cell 0, MA116.out.2.2.1.cell 1⟩
   clear hK K
   refine tk 11 ?_
   refine tk 12 ?_
   refine tk 13 ?_
   have m0 := MA116.out.2.2.2.2.1.cel 0
   have m1 := MA116.out.2.2.2.2.1.cel 1
   have m2 := MA116.out.2.2.2.2.1.cel 2
   have m3 := MA116.out.2.2.2.2.1.cel 3
   have m4 := MA116.out.2.2.2.2.1.cel 4
   have mf0 := MA116.out.2.2.2.2.1.free 0
   have mf1 := MA116.out.2.2.2.2.1.free 1
   have mf2 := MA116.out.2.2.2.2.1.free 2
   have mf3 := MA116.out.2.2.2.2.1.free 3
   have mf4 := MA116.out.2.2.2.2.1.free 4
   have S8 : Hid (Below w0.heap.size w0 (wn115.setCell ⟨bq, 4, none⟩ (.slice (some ⟨bg, bo, none⟩) zz bk)) ∧ Fr (fun x => x = bq) w (wn115.setCell ⟨bq, 4, none⟩ (.slice (some ⟨bg, bo, none⟩) zz bk)) ∧ Box (wn115.setCell ⟨bq, 4, none⟩ (.slice (some ⟨bg, bo, none⟩) zz bk)) (w.heap.size) 87 #[.pointer (some ⟨bt, 0, none⟩), .slice la v.m lc] ∧ Box (wn115.setCell ⟨bq, 4, none⟩ (.slice (some ⟨bg, bo, none⟩) zz bk)) (w.heap.size + 1) 112 #[.int .i64 0, .int .i64 0, .int .i64 0] ∧ Box (wn115.setCell ⟨bq, 4, none⟩ (.slice (some ⟨bg, bo, none⟩) zz bk)) (bq) 90 #[.int .i64 (fp : Int), .int .i64 fa1, .int .i64 fw, .int .i64 lg, .slice (some ⟨bg, bo, none⟩) zz bk] ∧ Box (wn115.setCell ⟨bq, 4, none⟩ (.slice (some ⟨bg, bo, none⟩) zz bk)) (nq) 74 #[.int .i64 (fp : Int), .int .i64 fw]) := ⟨(MA116.out.1.setCell HB0.out.1 _), (MA116.out.2.1.put 4 _), (MA116.out.2.2.1.other (box_ne MA116.out.2.2.1 MA116.out.2.2.2.2.1 (by decide)) _), (MA116.out.2.2.2.1.other (box_ne MA116.out.2.2.2.1 MA116.out.2.2.2.2.1 (by decide)) _), by have h9 := (MA116.out.2.2.2.2.1.set 4 (.slice (some ⟨bg, bo, none⟩) zz bk)); exact h9, (MA116.out.2.2.2.2.2.other (box_ne MA116.out.2.2.2.2.2 MA116.out.2.2.2.2.1 (by decide)) _)⟩
   clear MA116
   refine rl 14 fun K hK => ?_
   go_simp
   refine hK.out _ _ ?_ (fun hHeld => ?_)
   ·
    exact ⟨S8.out.2.2.1.cell 0, S8.out.2.2.1.cell 1⟩
   clear hK K
   refine wpAnyH_done (by kernel_rfl) ?_ _
   clear m0 m1 m2 m3 m4 mf0 mf1 mf2 mf3 mf4 hHeld
   generalize (wn115.setCell ⟨bq, 4, none⟩ (.slice (some ⟨bg, bo, none⟩) zz bk)) = W8 at S8 ⊢
   have x0 := S8.out.2.2.1.cel 0
   have n0 := S8.out.2.2.2.2.2.cel 0
   have n1 := S8.out.2.2.2.2.2.cel 1
   go_wp2_with fail
   refine (part94 H.out.1 fp fw al (al + d) _ (H.out.2.1.mono S8.out.1 nr) hfp HFW.out ⟨by omega, by omega⟩ ⟨by omega, by omega⟩).mono ?_
   rintro e w9 ⟨rfl, hb⟩
   have S9 : Hid (Below w0.heap.size w0 w9 ∧ Fr (fun x => x = bq) w w9 ∧ Box w9 (w.heap.size) 87 #[.pointer (some ⟨bt, 0, none⟩), .slice la v.m lc] ∧ Box w9 (w.heap.size + 1) 112 #[.int .i64 0, .int .i64 0, .int .i64 0] ∧ Box w9 (bq) 90 #[.int .i64 (fp : Int), .int .i64 fa1, .int .i64 fw, .int .i64 lg, .slice (some ⟨bg, bo, none⟩) zz bk] ∧ Box w9 (nq) 74 #[.int .i64 (fp : Int), .int .i64 fw]) := ⟨S8.out.1.trans (hb.mono S8.out.1.size), S8.out.2.1.trans (Fr.of_below hb), S8.out.2.2.1.mono hb nr, S8.out.2.2.2.1.mono hb nr, S8.out.2.2.2.2.1.mono hb nr, S8.out.2.2.2.2.2.mono hb nr⟩
   clear x0 n0 n1 hb S8
   have z0 := S9.out.2.2.2.1.cel 0
   have z1 := S9.out.2.2.2.1.cel 1
   have z2 := S9.out.2.2.2.1.cel 2
   have zf0 := S9.out.2.2.2.1.free 0
   have zf1 := S9.out.2.2.2.1.free 1
   have zf2 := S9.out.2.2.2.1.free 2
   have MA117 : Hid (Below w0.heap.size w0 (((w9.setCell ⟨w.heap.size + 1, 0, none⟩ (.int .i64 (fp : Int))).setCell ⟨w.heap.size + 1, 1, none⟩ (.int .i64 (pfA (v.P fp).ln fw al (al + d)))).setCell ⟨w.heap.size + 1, 2, none⟩ (.int .i64 (pfB (v.P fp).ln fw al (al + d)))) ∧ Fr (fun x => x = bq) w (((w9.setCell ⟨w.heap.size + 1, 0, none⟩ (.int .i64 (fp : Int))).setCell ⟨w.heap.size + 1, 1, none⟩ (.int .i64 (pfA (v.P fp).ln fw al (al + d)))).setCell ⟨w.heap.size + 1, 2, none⟩ (.int .i64 (pfB (v.P fp).ln fw al (al + d)))) ∧ Box (((w9.setCell ⟨w.heap.size + 1, 0, none⟩ (.int .i64 (fp : Int))).setCell ⟨w.heap.size + 1, 1, none⟩ (.int .i64 (pfA (v.P fp).ln fw al (al + d)))).setCell ⟨w.heap.size + 1, 2, none⟩ (.int .i64 (pfB (v.P fp).ln fw al (al + d)))) (w.heap.size) 87 #[.pointer (some ⟨bt, 0, none⟩), .slice la v.m lc] ∧ Box (((w9.setCell ⟨w.heap.size + 1, 0, none⟩ (.int .i64 (fp : Int))).setCell ⟨w.heap.size + 1, 1, none⟩ (.int .i64 (pfA (v.P fp).ln fw al (al + d)))).setCell ⟨w.heap.size + 1, 2, none⟩ (.int .i64 (pfB (v.P fp).ln fw al (al + d)))) (w.heap.size + 1) 112 #[.int .i64 (fp : Int), .int .i64 (pfA (v.P fp).ln fw al (al + d)), .int .i64 (pfB (v.P fp).ln fw al (al + d))] ∧ Box (((w9.setCell ⟨w.heap.size + 1, 0, none⟩ (.int .i64 (fp : Int))).setCell ⟨w.heap.size + 1, 1, none⟩ (.int .i64 (pfA (v.P fp).ln fw al (al + d)))).setCell ⟨w.heap.size + 1, 2, none⟩ (.int .i64 (pfB (v.P fp).ln fw al (al + d)))) (bq) 90 #[.int .i64 (fp : Int), .int .i64 fa1, .int .i64 fw, .int .i64 lg, .slice (some ⟨bg, bo, none⟩) zz bk] ∧ Box (((w9.setCell ⟨w.heap.size + 1, 0, none⟩ (.int .i64 (fp : Int))).setCell ⟨w.heap.size + 1, 1, none⟩ (.int .i64 (pfA (v.P fp).ln fw al (al + d)))).setCell ⟨w.heap.size + 1, 2, none⟩ (.int .i64 (pfB (v.P fp).ln fw al (al + d)))) (nq) 74 #[.int .i64 (fp : Int), .int .i64 fw]) := ⟨(((S9.out.1.setCell (Nat.le_trans HB0.out.2.size (Nat.le_succ _)) _).setCell (Nat.le_trans HB0.out.2.size (Nat.le_succ _)) _).setCell (Nat.le_trans HB0.out.2.size (Nat.le_succ _)) _), (((S9.out.2.1.putn (Nat.le_succ _) 0 _).putn (Nat.le_succ _) 1 _).putn (Nat.le_succ _) 2 _), (((S9.out.2.2.1.other (box_ne S9.out.2.2.1 S9.out.2.2.2.1 (by decide)) _).other (box_ne S9.out.2.2.1 S9.out.2.2.2.1 (by decide)) _).other (box_ne S9.out.2.2.1 S9.out.2.2.2.1 (by decide)) _), by have h9 := (((S9.out.2.2.2.1.set 0 (.int .i64 (fp : Int))).set 1 (.int .i64 (pfA (v.P fp).ln fw al (al + d)))).set 2 (.int .i64 (pfB (v.P fp).ln fw al (al + d)))); exact h9, (((S9.out.2.2.2.2.1.other (box_ne S9.out.2.2.2.2.1 S9.out.2.2.2.1 (by decide)) _).other (box_ne S9.out.2.2.2.2.1 S9.out.2.2.2.1 (by decide)) _).other (box_ne S9.out.2.2.2.2.1 S9.out.2.2.2.1 (by decide)) _), (((S9.out.2.2.2.2.2.other (box_ne S9.out.2.2.2.2.2 S9.out.2.2.2.1 (by decide)) _).other (box_ne S9.out.2.2.2.2.2 S9.out.2.2.2.1 (by decide)) _).other (box_ne S9.out.2.2.2.2.2 S9.out.2.2.2.1 (by decide)) _)⟩
   clear S9
   go_wp2_with fail
   clear z0 z1 z2 zf0 zf1 zf2
   generalize (((w9.setCell ⟨w.heap.size + 1, 0, none⟩ (.int .i64 (fp : Int))).setCell ⟨w.heap.size + 1, 1, none⟩ (.int .i64 (pfA (v.P fp).ln fw al (al + d)))).setCell ⟨w.heap.size + 1, 2, none⟩ (.int .i64 (pfB (v.P fp).ln fw al (al + d)))) = W9 at MA117 ⊢
   have z0 := MA117.out.2.2.2.1.cel 0
   have z1 := MA117.out.2.2.2.1.cel 1
   have z2 := MA117.out.2.2.2.1.cel 2
   exact bodyPost_ret (v := .agg #[.int .i64 (fp : Int), .int .i64 (pfA (v.P fp).ln fw al (al + d)), .int .i64 (pfB (v.P fp).ln fw al (al + d))]) (by simp [results, Tryz.results116, go_sem, z0, z1, z2]) rfl (⟨rfl, MA117.out.2.1, by have h9 := MA117.out.2.2.2.2.1; rw [← HZ.out] at h9; exact h9⟩)
  ·
   go_simp
   refine (needs45 H.out.1 (fp : Int) fa1 fw lg nb B (some ⟨bg, bo, none⟩) bk _ (H.out.2.1.mono MD111.out.1 nr) H.out.2.2.1 hlg hnb (H.out.2.2.2.1.fr MD111.out.2.1 HGQ.out).ns H.out.2.2.2.2.1).mono ?_
   rintro e wn118 ⟨zz, rfl, hz1, hz2, hz3, hb⟩
   have HZ : Hid (ndN (hvF v (fp : Int) fa1 fw B) lg nb = zz) := ndN_is hz1 hz2 hz3
   have hzn : zz ≤ nb := by rw [← HZ.out]; exact H.out.2.2.2.2.2
   have hzb : zz ≤ bk := by omega
   clear hz1 hz2 hz3
   have MA119 : Hid (Below w0.heap.size w0 wn118 ∧ Fr (fun x => x = bq) w wn118 ∧ Box wn118 (w.heap.size) 87 #[.pointer (some ⟨bt, 0, none⟩), .slice la v.m lc] ∧ Box wn118 (w.heap.size + 1) 112 #[.int .i64 0, .int .i64 0, .int .i64 0] ∧ Box wn118 (bq) 90 #[.int .i64 (fp : Int), .int .i64 fa1, .int .i64 fw, .int .i64 lg, .slice (some ⟨bg, bo, none⟩) nb bk] ∧ Box wn118 (nq) 74 #[.int .i64 (fp : Int), .int .i64 fw]) := ⟨MD111.out.1.trans (hb.mono MD111.out.1.size), MD111.out.2.1.trans (Fr.of_below hb), MD111.out.2.2.1.mono hb nr, MD111.out.2.2.2.1.mono hb nr, MD111.out.2.2.2.2.1.mono hb nr, MD111.out.2.2.2.2.2.mono hb nr⟩
   clear hb MD111
   go_wp2_with fail
   refine hK.out _ _ ?_ (fun hHeld => ?_)
   ·
    exact ⟨MA119.out.2.2.1.cell 0, MA119.out.2.2.1.cell 1⟩
   clear hK K
   refine rl 4 fun K hK => ?_
   have m0 := MA119.out.2.2.2.2.1.cel 0
   have m1 := MA119.out.2.2.2.2.1.cel 1
   have m2 := MA119.out.2.2.2.2.1.cel 2
   have m3 := MA119.out.2.2.2.2.1.cel 3
   have m4 := MA119.out.2.2.2.2.1.cel 4
   go_simp
   refine hK.out _ _ ?_ (fun hHeld => ?_)
   ·
    exact ⟨MA119.out.2.2.1.cell 0, MA119.out.2.2.1.cell 1⟩
   clear hK K
   clear m0 m1 m2 m3 m4
   refine tk 11 ?_
   refine tk 12 ?_
   refine tk 13 ?_
   have m0 := MA119.out.2.2.2.2.1.cel 0
   have m1 := MA119.out.2.2.2.2.1.cel 1
   have m2 := MA119.out.2.2.2.2.1.cel 2
   have m3 := MA119.out.2.2.2.2.1.cel 3
   have m4 := MA119.out.2.2.2.2.1.cel 4
   have mf0 := MA119.out.2.2.2.2.1.free 0
   have mf1 := MA119.out.2.2.2.2.1.free 1
   have mf2 := MA119.out.2.2.2.2.1.free 2
   have mf3 := MA119.out.2.2.2.2.1.free 3
   have mf4 := MA119.out.2.2.2.2.1.free 4
   have S8 : Hid (Below w0.heap.size w0 (wn118.setCell ⟨bq, 4, none⟩ (.slice (some ⟨bg, bo, none⟩) zz bk)) ∧ Fr (fun x => x = bq) w (wn118.setCell ⟨bq, 4, none⟩ (.slice (some ⟨bg, bo, none⟩) zz bk)) ∧ Box (wn118.setCell ⟨bq, 4, none⟩ (.slice (some ⟨bg, bo, none⟩) zz bk)) (w.heap.size) 87 #[.pointer (some ⟨bt, 0, none⟩), .slice la v.m lc] ∧ Box (wn118.setCell ⟨bq, 4, none⟩ (.slice (some ⟨bg, bo, none⟩) zz bk)) (w.heap.size + 1) 112 #[.int .i64 0, .int .i64 0, .int .i64 0] ∧ Box (wn118.setCell ⟨bq, 4, none⟩ (.slice (some ⟨bg, bo, none⟩) zz bk)) (bq) 90 #[.int .i64 (fp : Int), .int .i64 fa1, .int .i64 fw, .int .i64 lg, .slice (some ⟨bg, bo, none⟩) zz bk] ∧ Box (wn118.setCell ⟨bq, 4, none⟩ (.slice (some ⟨bg, bo, none⟩) zz bk)) (nq) 74 #[.int .i64 (fp : Int), .int .i64 fw]) := ⟨(MA119.out.1.setCell HB0.out.1 _), (MA119.out.2.1.put 4 _), (MA119.out.2.2.1.other (box_ne MA119.out.2.2.1 MA119.out.2.2.2.2.1 (by decide)) _), (MA119.out.2.2.2.1.other (box_ne MA119.out.2.2.2.1 MA119.out.2.2.2.2.1 (by decide)) _), by have h9 := (MA119.out.2.2.2.2.1.set 4 (.slice (some ⟨bg, bo, none⟩) zz bk)); exact h9, (MA119.out.2.2.2.2.2.other (box_ne MA119.out.2.2.2.2.2 MA119.out.2.2.2.2.1 (by decide)) _)⟩
   clear MA119
   refine rl 14 fun K hK => ?_
   go_simp
   refine hK.out _ _ ?_ (fun hHeld => ?_)
   ·
    exact ⟨S8.out.2.2.1.cell 0, S8.out.2.2.1.cell 1⟩
   clear hK K
   refine wpAnyH_done (by kernel_rfl) ?_ _
   clear m0 m1 m2 m3 m4 mf0 mf1 mf2 mf3 mf4 hHeld
   generalize (wn118.setCell ⟨bq, 4, none⟩ (.slice (some ⟨bg, bo, none⟩) zz bk)) = W8 at S8 ⊢
   have x0 := S8.out.2.2.1.cel 0
   have n0 := S8.out.2.2.2.2.2.cel 0
   have n1 := S8.out.2.2.2.2.2.cel 1
   go_wp2_with fail
   refine (part94 H.out.1 fp fw al (al + d) _ (H.out.2.1.mono S8.out.1 nr) hfp HFW.out ⟨by omega, by omega⟩ ⟨by omega, by omega⟩).mono ?_
   rintro e w9 ⟨rfl, hb⟩
   have S9 : Hid (Below w0.heap.size w0 w9 ∧ Fr (fun x => x = bq) w w9 ∧ Box w9 (w.heap.size) 87 #[.pointer (some ⟨bt, 0, none⟩), .slice la v.m lc] ∧ Box w9 (w.heap.size + 1) 112 #[.int .i64 0, .int .i64 0, .int .i64 0] ∧ Box w9 (bq) 90 #[.int .i64 (fp : Int), .int .i64 fa1, .int .i64 fw, .int .i64 lg, .slice (some ⟨bg, bo, none⟩) zz bk] ∧ Box w9 (nq) 74 #[.int .i64 (fp : Int), .int .i64 fw]) := ⟨S8.out.1.trans (hb.mono S8.out.1.size), S8.out.2.1.trans (Fr.of_below hb), S8.out.2.2.1.mono hb nr, S8.out.2.2.2.1.mono hb nr, S8.out.2.2.2.2.1.mono hb nr, S8.out.2.2.2.2.2.mono hb nr⟩
   clear x0 n0 n1 hb S8
   have z0 := S9.out.2.2.2.1.cel 0
   have z1 := S9.out.2.2.2.1.cel 1
   have z2 := S9.out.2.2.2.1.cel 2
   have zf0 := S9.out.2.2.2.1.free 0
   have zf1 := S9.out.2.2.2.1.free 1
   have zf2 := S9.out.2.2.2.1.free 2
   have MA120 : Hid (Below w0.heap.size w0 (((w9.setCell ⟨w.heap.size + 1, 0, none⟩ (.int .i64 (fp : Int))).setCell ⟨w.heap.size + 1, 1, none⟩ (.int .i64 (pfA (v.P fp).ln fw al (al + d)))).setCell ⟨w.heap.size + 1, 2, none⟩ (.int .i64 (pfB (v.P fp).ln fw al (al + d)))) ∧ Fr (fun x => x = bq) w (((w9.setCell ⟨w.heap.size + 1, 0, none⟩ (.int .i64 (fp : Int))).setCell ⟨w.heap.size + 1, 1, none⟩ (.int .i64 (pfA (v.P fp).ln fw al (al + d)))).setCell ⟨w.heap.size + 1, 2, none⟩ (.int .i64 (pfB (v.P fp).ln fw al (al + d)))) ∧ Box (((w9.setCell ⟨w.heap.size + 1, 0, none⟩ (.int .i64 (fp : Int))).setCell ⟨w.heap.size + 1, 1, none⟩ (.int .i64 (pfA (v.P fp).ln fw al (al + d)))).setCell ⟨w.heap.size + 1, 2, none⟩ (.int .i64 (pfB (v.P fp).ln fw al (al + d)))) (w.heap.size) 87 #[.pointer (some ⟨bt, 0, none⟩), .slice la v.m lc] ∧ Box (((w9.setCell ⟨w.heap.size + 1, 0, none⟩ (.int .i64 (fp : Int))).setCell ⟨w.heap.size + 1, 1, none⟩ (.int .i64 (pfA (v.P fp).ln fw al (al + d)))).setCell ⟨w.heap.size + 1, 2, none⟩ (.int .i64 (pfB (v.P fp).ln fw al (al + d)))) (w.heap.size + 1) 112 #[.int .i64 (fp : Int), .int .i64 (pfA (v.P fp).ln fw al (al + d)), .int .i64 (pfB (v.P fp).ln fw al (al + d))] ∧ Box (((w9.setCell ⟨w.heap.size + 1, 0, none⟩ (.int .i64 (fp : Int))).setCell ⟨w.heap.size + 1, 1, none⟩ (.int .i64 (pfA (v.P fp).ln fw al (al + d)))).setCell ⟨w.heap.size + 1, 2, none⟩ (.int .i64 (pfB (v.P fp).ln fw al (al + d)))) (bq) 90 #[.int .i64 (fp : Int), .int .i64 fa1, .int .i64 fw, .int .i64 lg, .slice (some ⟨bg, bo, none⟩) zz bk] ∧ Box (((w9.setCell ⟨w.heap.size + 1, 0, none⟩ (.int .i64 (fp : Int))).setCell ⟨w.heap.size + 1, 1, none⟩ (.int .i64 (pfA (v.P fp).ln fw al (al + d)))).setCell ⟨w.heap.size + 1, 2, none⟩ (.int .i64 (pfB (v.P fp).ln fw al (al + d)))) (nq) 74 #[.int .i64 (fp : Int), .int .i64 fw]) := ⟨(((S9.out.1.setCell (Nat.le_trans HB0.out.2.size (Nat.le_succ _)) _).setCell (Nat.le_trans HB0.out.2.size (Nat.le_succ _)) _).setCell (Nat.le_trans HB0.out.2.size (Nat.le_succ _)) _), (((S9.out.2.1.putn (Nat.le_succ _) 0 _).putn (Nat.le_succ _) 1 _).putn (Nat.le_succ _) 2 _), (((S9.out.2.2.1.other (box_ne S9.out.2.2.1 S9.out.2.2.2.1 (by decide)) _).other (box_ne S9.out.2.2.1 S9.out.2.2.2.1 (by decide)) _).other (box_ne S9.out.2.2.1 S9.out.2.2.2.1 (by decide)) _), by have h9 := (((S9.out.2.2.2.1.set 0 (.int .i64 (fp : Int))).set 1 (.int .i64 (pfA (v.P fp).ln fw al (al + d)))).set 2 (.int .i64 (pfB (v.P fp).ln fw al (al + d)))); exact h9, (((S9.out.2.2.2.2.1.other (box_ne S9.out.2.2.2.2.1 S9.out.2.2.2.1 (by decide)) _).other (box_ne S9.out.2.2.2.2.1 S9.out.2.2.2.1 (by decide)) _).other (box_ne S9.out.2.2.2.2.1 S9.out.2.2.2.1 (by decide)) _), (((S9.out.2.2.2.2.2.other (box_ne S9.out.2.2.2.2.2 S9.out.2.2.2.1 (by decide)) _).other (box_ne S9.out.2.2.2.2.2 S9.out.2.2.2.1 (by decide)) _).other (box_ne S9.out.2.2.2.2.2 S9.out.2.2.2.1 (by decide)) _)⟩
   clear S9
   go_wp2_with fail
   clear z0 z1 z2 zf0 zf1 zf2
   generalize (((w9.setCell ⟨w.heap.size + 1, 0, none⟩ (.int .i64 (fp : Int))).setCell ⟨w.heap.size + 1, 1, none⟩ (.int .i64 (pfA (v.P fp).ln fw al (al + d)))).setCell ⟨w.heap.size + 1, 2, none⟩ (.int .i64 (pfB (v.P fp).ln fw al (al + d)))) = W9 at MA120 ⊢
   have z0 := MA120.out.2.2.2.1.cel 0
   have z1 := MA120.out.2.2.2.1.cel 1
   have z2 := MA120.out.2.2.2.1.cel 2
   exact bodyPost_ret (v := .agg #[.int .i64 (fp : Int), .int .i64 (pfA (v.P fp).ln fw al (al + d)), .int .i64 (pfB (v.P fp).ln fw al (al + d))]) (by simp [results, Tryz.results116, go_sem, z0, z1, z2]) rfl (⟨rfl, MA120.out.2.1, by have h9 := MA120.out.2.2.2.2.1; rw [← HZ.out] at h9; exact h9⟩)
end Go.Proofs.YtjhmaofjmalglaaGreat
