import Derived.Test.YtjhmaofjmalglaaGreatZat
import Derived.Test.YtjhmaofjmalglaaGreatZaa
namespace Go.Proofs.YtjhmaofjmalglaaGreat
open Go.RowKit Go.Lib
theorem isWay94 (way : Int) (w : World) : Calls Tryz.prog 126 #[.int .i64 way] w fun e w' => e = .returned (.bool (decide (way = 1) || decide (way = -1))) ∧ w' = w := by
 by_cases h1 : way = 1
 ·
  subst h1
  go_enter Tryz.func126, Tryz.ntmps126
  go_wp2_with fail
  go_ret
  exact ⟨rfl, rfl⟩
 ·
  have h1' : (way == 1) = false := by simpa using h1
  obtain ⟨z, HZ⟩ : ∃ z, Hid ((decide (way = 1) || decide (way = -1)) = z) := ⟨_, rfl⟩
  rw [HZ.out]
  by_cases h2 : way = -1
  ·
   subst h2
   have HT : Hid (z = true) := HZ.out.symm.trans rfl
   go_enter Tryz.func126, Tryz.ntmps126
   go_wp2_with fail
   go_ret
   exact ⟨by rw [HT.out]; rfl, rfl⟩
  ·
   have h2' : (way == -1) = false := by simpa using h2
   have HT : Hid (z = false) := HZ.out.symm.trans (by rw [decide_eq_false h1, decide_eq_false h2]; rfl)
   clear h1 h2
   go_enter Tryz.func126, Tryz.ntmps126
   go_wp2_with fail
   go_ret
   exact ⟨by rw [HT.out]; rfl, rfl⟩
theorem place93 (a : Option Addr) (n cap : Nat) (x : Int) (w : World) (hn : n ≤ 1048576) :
  Calls Tryz.prog 125 #[.slice a n cap, .int .i64 x] w fun e w' => e = .returned (.bool (inB x 0 ((n : Int) - 1))) ∧ w' = w := by
 go_enter Tryz.func125, Tryz.ntmps125
 go_wp2_with fail
 refine (within43 x 0 ((n : Int) - 1) _).mono ?_
 rintro e w1 ⟨rfl, hw⟩
 have hw := hw.symm
 subst hw
 go_wp2_with fail
 go_ret
 exact ⟨rfl, rfl⟩
set_option maxHeartbeats 2000000 in
theorem isStep67 {v : Nv} (hn : v.n ≤ 100) (pa : Option Addr) (pc : Nat) (ja : Option Addr) (jc : Nat) (p way : Int) (w : World) :
  Calls Tryz.prog 86 #[.agg #[.slice pa v.n pc, .slice ja v.m jc], .agg #[.int .i64 p, .int .i64 way]] w fun e w' => e = .returned (.bool (stepB v p way)) ∧ Below w.heap.size w w' := by
 have S0 : Hid (Below w.heap.size w ((w.alloc (.cells #[.slice pa v.n pc, .slice ja v.m jc] 40)).alloc (.cells #[.int .i64 p, .int .i64 way] 74)) ∧ Box ((w.alloc (.cells #[.slice pa v.n pc, .slice ja v.m jc] 40)).alloc (.cells #[.int .i64 p, .int .i64 way] 74)) w.heap.size 40 #[.slice pa v.n pc, .slice ja v.m jc] ∧ Box ((w.alloc (.cells #[.slice pa v.n pc, .slice ja v.m jc] 40)).alloc (.cells #[.int .i64 p, .int .i64 way] 74)) (w.heap.size + 1) 74 #[.int .i64 p, .int .i64 way]) := ⟨bel2 _ _ _, (Box.new _ _ _).alloc _, by have := Box.new (w.alloc (.cells #[.slice pa v.n pc, .slice ja v.m jc] 40)) 74 #[.int .i64 p, .int .i64 way]; simpa using this⟩
 obtain ⟨R, HR⟩ : ∃ R, Hid (stepB v p way = R) := ⟨_, rfl⟩
 rw [HR.out]
 go_enter Tryz.func86, Tryz.ntmps86
 go_upto_region 1 with fail
 generalize ((w.alloc (.cells #[.slice pa v.n pc, .slice ja v.m jc] 40)).alloc (.cells #[.int .i64 p, .int .i64 way] 74)) = V0 at S0 ⊢
 have n0 := S0.out.2.1.cel 0
 have s0 := S0.out.2.2.cel 0
 have s1 := S0.out.2.2.cel 1
 go_wp2_with fail
 refine (place93 pa v.n pc p V0 (by omega)).mono ?_
 rintro e w1 ⟨he, hw⟩
 have hw := hw.symm
 subst hw
 obtain ⟨u, HU⟩ : ∃ u, Hid (inB p 0 ((v.n : Int) - 1) = u) := ⟨_, rfl⟩
 rw [HU.out] at he
 subst he
 cases u with
 | false =>
  have HT : Hid (R = false) := HR.out.symm.trans (by rw [stepB, HU.out]; rfl)
  go_wp2_with fail
  go_ret
  exact ⟨by rw [HT.out]; rfl, S0.out.1⟩
 | true =>
  have HT : Hid (R = (decide (way = 1) || decide (way = -1))) := HR.out.symm.trans (by rw [stepB, HU.out]; rfl)
  go_wp2_with fail
  refine (isWay94 way V0).mono ?_
  rw [← HT.out]
  rintro e w2 ⟨rfl, hw⟩
  have hw := hw.symm
  subst hw
  go_wp2_with fail
  go_ret
  exact ⟨rfl, S0.out.1⟩
set_option maxRecDepth 100000 in
set_option maxHeartbeats 8000000 in
theorem isSpot66 {v : Nv} (ok : v.Ok) (pa : Option Addr) (pc : Nat) (ja : Option Addr) (jc : Nat) (p a way : Int) (w : World) (hP : PsAt 0 w pa v.n v.P) :
  Calls Tryz.prog 42 #[.agg #[.slice pa v.n pc, .slice ja v.m jc], .agg #[.int .i64 p, .int .i64 a, .int .i64 way]] w fun e w' => e = .returned (.bool (spotB v p a way)) ∧ Below w.heap.size w w' := by
 have hn := ok.n1
 obtain ⟨R, HR⟩ : ∃ R, Hid (spotB v p a way = R) := ⟨_, rfl⟩
 rw [HR.out]
 obtain ⟨u, HI⟩ : ∃ u, Hid (stepB v p way = u) := ⟨_, rfl⟩
 cases u with
 | false =>
  have HT : Hid (R = false) := HR.out.symm.trans (by rw [spotB, ← stepB, HI.out]; rfl)
  clear hP ok
  have S0 : Hid (Below w.heap.size w ((w.alloc (.cells #[.slice pa v.n pc, .slice ja v.m jc] 40)).alloc (.cells #[.int .i64 p, .int .i64 a, .int .i64 way] 30)) ∧ Box ((w.alloc (.cells #[.slice pa v.n pc, .slice ja v.m jc] 40)).alloc (.cells #[.int .i64 p, .int .i64 a, .int .i64 way] 30)) w.heap.size 40 #[.slice pa v.n pc, .slice ja v.m jc] ∧ Box ((w.alloc (.cells #[.slice pa v.n pc, .slice ja v.m jc] 40)).alloc (.cells #[.int .i64 p, .int .i64 a, .int .i64 way] 30)) (w.heap.size + 1) 30 #[.int .i64 p, .int .i64 a, .int .i64 way]) := ⟨bel2 _ _ _, (Box.new _ _ _).alloc _, by have := Box.new (w.alloc (.cells #[.slice pa v.n pc, .slice ja v.m jc] 40)) 30 #[.int .i64 p, .int .i64 a, .int .i64 way]; simpa using this⟩
  go_enter Tryz.func42, Tryz.ntmps42
  go_upto_region 1 with fail
  generalize ((w.alloc (.cells #[.slice pa v.n pc, .slice ja v.m jc] 40)).alloc (.cells #[.int .i64 p, .int .i64 a, .int .i64 way] 30)) = V0 at S0 ⊢
  have n0 := S0.out.2.1.cel 0
  have n1 := S0.out.2.1.cel 1
  have s0 := S0.out.2.2.cel 0
  have s1 := S0.out.2.2.cel 1
  have s2 := S0.out.2.2.cel 2
  have MD : Hid (Below w.heap.size w V0.drew ∧ Box V0.drew w.heap.size 40 #[.slice pa v.n pc, .slice ja v.m jc] ∧ Box V0.drew (w.heap.size + 1) 30 #[.int .i64 p, .int .i64 a, .int .i64 way]) := ⟨S0.out.1.drew, S0.out.2.1.drew, S0.out.2.2.drew⟩
  go_wp2_with fail
  refine wp_region_held_drew (S := (fun wx : World => wx.cell? ⟨w.heap.size, 0, none⟩ = some (.slice pa v.n pc) ∧ wx.cell? ⟨w.heap.size, 1, none⟩ = some (.slice ja v.m jc) ∧ wx.cell? ⟨w.heap.size + 1, 0, none⟩ = some (.int .i64 p) ∧ wx.cell? ⟨w.heap.size + 1, 1, none⟩ = some (.int .i64 a) ∧ wx.cell? ⟨w.heap.size + 1, 2, none⟩ = some (.int .i64 way))) (by kernel_rfl) ?_ (fun hHeld => ?_)
  ·
   exact ⟨n0, n1, s0, s1, s2⟩
  refine tk 0 ?_
  refine tk 1 ?_
  refine rl 2 fun K hK => ?_
  go_simp
  refine (step79 p a way _).mono ?_
  rintro e w1 ⟨rfl, hb1⟩
  have B1 := MD.out.1.trans (hb1.mono MD.out.1.size)
  have N1 := MD.out.2.1.mono hb1 nr
  have S1 := MD.out.2.2.mono hb1 nr
  go_wp2_with fail
  refine hK.out _ _ ?_ (fun hHeld2 => ?_)
  ·
   exact ⟨N1.cell 0, N1.cell 1, S1.cell 0, S1.cell 1, S1.cell 2⟩
  clear hK K
  refine rl 3 fun K hK => ?_
  go_simp
  refine (isStep67 hn pa pc ja jc p way _).mono ?_
  rintro e w2 ⟨he, hb2⟩
  rw [HI.out] at he
  subst he
  have B2 := B1.trans (hb2.mono B1.size)
  have N2 := N1.mono hb2 nr
  have S2 := S1.mono hb2 nr
  go_wp2_with fail
  refine hK.out _ _ ?_ (fun hHeld3 => ?_)
  ·
   exact ⟨N2.cell 0, N2.cell 1, S2.cell 0, S2.cell 1, S2.cell 2⟩
  clear hK K
  refine tk 4 ?_
  refine tf 5 ?_
  refine tf 6 ?_
  refine tf 7 ?_
  refine tf 8 ?_
  refine tf 9 ?_
  refine tf 10 ?_
  refine tf 11 ?_
  refine tf 12 ?_
  refine tf 13 ?_
  refine tf 14 ?_
  refine tk 15 ?_
  refine tk 16 ?_
  refine wpAnyH_done (by kernel_rfl) ?_ _
  have HE : Hid (Below w.heap.size w w2) := B2
  go_wp2_with fail
  go_ret
  exact ⟨by rw [HT.out]; rfl, HE.out⟩
 | true =>
  obtain ⟨q, rfl, hq, _⟩ := step_nat HI.out
  obtain ⟨b, off, rfl, _, hb, hc⟩ := hP (by omega)
  have HC1 : Hid (b < w.heap.size ∧ w.cell? ⟨b, off + q * 4 + 1, none⟩ = some (.int .i64 (v.P q).ln)) := ⟨hb, (hc q hq).2.1⟩
  have hpi : (q : Int) < (v.n : Int) := by omega
  have hp0 : (0 : Int) ≤ (q : Int) := by omega
  obtain ⟨z, HA⟩ : ∃ z, Hid (inB a 0 (v.P q).ln = z) := ⟨_, rfl⟩
  have HT : Hid (R = z) := HR.out.symm.trans (by rw [spotB, ← stepB, HI.out, Int.toNat_natCast, HA.out]; rfl)
  clear hc hP ok hb
  have S0 : Hid (Below w.heap.size w ((w.alloc (.cells #[.slice (some ⟨b, off, none⟩) v.n pc, .slice ja v.m jc] 40)).alloc (.cells #[.int .i64 (q : Int), .int .i64 a, .int .i64 way] 30)) ∧ Box ((w.alloc (.cells #[.slice (some ⟨b, off, none⟩) v.n pc, .slice ja v.m jc] 40)).alloc (.cells #[.int .i64 (q : Int), .int .i64 a, .int .i64 way] 30)) w.heap.size 40 #[.slice (some ⟨b, off, none⟩) v.n pc, .slice ja v.m jc] ∧ Box ((w.alloc (.cells #[.slice (some ⟨b, off, none⟩) v.n pc, .slice ja v.m jc] 40)).alloc (.cells #[.int .i64 (q : Int), .int .i64 a, .int .i64 way] 30)) (w.heap.size + 1) 30 #[.int .i64 (q : Int), .int .i64 a, .int .i64 way]) := ⟨bel2 _ _ _, (Box.new _ _ _).alloc _, by have := Box.new (w.alloc (.cells #[.slice (some ⟨b, off, none⟩) v.n pc, .slice ja v.m jc] 40)) 30 #[.int .i64 (q : Int), .int .i64 a, .int .i64 way]; simpa using this⟩
  go_enter Tryz.func42, Tryz.ntmps42
  go_upto_region 1 with fail
  generalize ((w.alloc (.cells #[.slice (some ⟨b, off, none⟩) v.n pc, .slice ja v.m jc] 40)).alloc (.cells #[.int .i64 (q : Int), .int .i64 a, .int .i64 way] 30)) = V0 at S0 ⊢
  have c1 : V0.cell? ⟨b, off + q * 4 + 1, none⟩ = some (.int .i64 (v.P q).ln) := cell_keep S0.out.1 HC1.out.1 HC1.out.2
  have n0 := S0.out.2.1.cel 0
  have n1 := S0.out.2.1.cel 1
  have s0 := S0.out.2.2.cel 0
  have s1 := S0.out.2.2.cel 1
  have s2 := S0.out.2.2.cel 2
  have MD : Hid (Below w.heap.size w V0.drew ∧ Box V0.drew w.heap.size 40 #[.slice (some ⟨b, off, none⟩) v.n pc, .slice ja v.m jc] ∧ Box V0.drew (w.heap.size + 1) 30 #[.int .i64 (q : Int), .int .i64 a, .int .i64 way]) := ⟨S0.out.1.drew, S0.out.2.1.drew, S0.out.2.2.drew⟩
  go_wp2_with fail
  refine wp_region_held_drew (S := (fun wx : World => wx.cell? ⟨w.heap.size, 0, none⟩ = some (.slice (some ⟨b, off, none⟩) v.n pc) ∧ wx.cell? ⟨w.heap.size, 1, none⟩ = some (.slice ja v.m jc) ∧ wx.cell? ⟨w.heap.size + 1, 0, none⟩ = some (.int .i64 (q : Int)) ∧ wx.cell? ⟨w.heap.size + 1, 1, none⟩ = some (.int .i64 a) ∧ wx.cell? ⟨w.heap.size + 1, 2, none⟩ = some (.int .i64 way) ∧ wx.cell? ⟨b, off + q * 4 + 1, none⟩ = some (.int .i64 (v.P q).ln))) (by kernel_rfl) ?_ (fun hHeld => ?_)
  ·
   exact ⟨n0, n1, s0, s1, s2, c1⟩
  refine tk 0 ?_
  refine tk 1 ?_
  refine rl 2 fun K hK => ?_
  go_simp
  refine (step79 (q : Int) a way _).mono ?_
  rintro e w1 ⟨rfl, hb1⟩
  have B1 := MD.out.1.trans (hb1.mono MD.out.1.size)
  have N1 := MD.out.2.1.mono hb1 nr
  have S1 := MD.out.2.2.mono hb1 nr
  go_wp2_with fail
  refine hK.out _ _ ?_ (fun hHeld2 => ?_)
  ·
   exact ⟨N1.cell 0, N1.cell 1, S1.cell 0, S1.cell 1, S1.cell 2, cell_keep B1 HC1.out.1 HC1.out.2⟩
  clear hK K
  refine rl 3 fun K hK => ?_
  go_simp
  refine (isStep67 hn (some ⟨b, off, none⟩) pc ja jc (q : Int) way _).mono ?_
  rintro e w2 ⟨he, hb2⟩
  rw [HI.out] at he
  subst he
  have B2 := B1.trans (hb2.mono B1.size)
  have N2 := N1.mono hb2 nr
  have S2 := S1.mono hb2 nr
  go_wp2_with fail
  refine hK.out _ _ ?_ (fun hHeld3 => ?_)
  ·
   exact ⟨N2.cell 0, N2.cell 1, S2.cell 0, S2.cell 1, S2.cell 2, cell_keep B2 HC1.out.1 HC1.out.2⟩
  clear hK K
  refine tk 4 ?_
  refine tk 5 ?_
  refine tk 6 ?_
  refine tk 7 ?_
  refine tk 8 ?_
  refine tk 9 ?_
  refine tk 10 ?_
  refine tk 11 ?_
  refine tk 12 ?_
  refine tk 13 ?_
  refine rl 14 fun K hK => ?_
  go_simp
  refine (within43 a 0 (v.P q).ln _).mono ?_
  rintro e w3 ⟨he, hw3⟩
  rw [HA.out] at he
  subst he
  have hw3 := hw3.symm
  subst hw3
  go_wp2_with fail
  refine hK.out _ _ ?_ (fun hHeld14 => ?_)
  ·
   exact ⟨N2.cell 0, N2.cell 1, S2.cell 0, S2.cell 1, S2.cell 2, cell_keep B2 HC1.out.1 HC1.out.2⟩
  clear hK K
  refine tk 15 ?_
  refine tk 16 ?_
  refine wpAnyH_done (by kernel_rfl) ?_ _
  have HE : Hid (Below w.heap.size w w2) := B2
  go_wp2_with fail
  go_ret
  exact ⟨by rw [HT.out]; rfl, HE.out⟩
theorem bodyOf46 (fp fa fw lg : Int) (ba : Option Addr) (nb bk : Nat) (w : World) :
  Calls Tryz.prog 69 #[.agg #[.int .i64 fp, .int .i64 fa, .int .i64 fw, .int .i64 lg, .slice ba nb bk]] w fun e w' => e = .returned (.agg #[.int .i64 fp, .int .i64 fa, .int .i64 fw, .int .i64 lg, .slice ba nb bk]) ∧ Below w.heap.size w w' := by
 go_enter Tryz.func69, Tryz.ntmps69
 go_wp2
 exact bodyPost_ret (v := .agg #[.int .i64 fp, .int .i64 fa, .int .i64 fw, .int .i64 lg, .slice ba nb bk]) (by simp [results, Tryz.results69, go_sem]) rfl ⟨rfl, bel2 _ _ _⟩
def needB (v : Nv) (fp fa fw lg : Int) (nb : Nat) (B : Nat → Nat → Int) : Bool := allT (fun i => decide (hvF v fp fa fw B i < lg)) nb && decide (lg ≤ hvF v fp fa fw B nb)
def NeedR (w : World) (nb : Nat) (g : Bool) (e : Ending) (w' : World) : Prop := ∃ z : Int, e = .returned (.int .i64 z) ∧ decide (z = (nb : Int)) = g ∧ Below w.heap.size w w'
set_option maxRecDepth 100000 in
set_option maxHeartbeats 16000000 in
theorem needs70 {v : Nv} (ok : v.Ok) {bt sb : Nat} {pa : Option Addr} {pc : Nat} {ja : Option Addr} {jc : Nat} (fp fa fw lg : Int) (nb : Nat) (B : Nat → Nat → Int) (ba : Option Addr) (bk : Nat) (w : World) (h : TkAt w bt sb v pa pc ja jc) (hsp : spotB v fp fa fw = true) (hlg : 1 ≤ lg ∧ lg ≤ 100000) (hnb : nb ≤ 200) (hB : NsAt 2 0 w ba nb B) (hst : ∀ i, i < nb → stepB v (B i 0) (B i 1) = true) :
  Calls Tryz.prog 45 #[.pointer (some ⟨bt, 0, none⟩), .agg #[.int .i64 fp, .int .i64 fa, .int .i64 fw, .int .i64 lg, .slice ba nb bk]] w fun e w' => NeedR w nb (needB v fp fa fw lg nb B) e w' := by
 have H : Hid (v.Ok ∧ TkAt w bt sb v pa pc ja jc ∧ NsAt 2 0 w ba nb B ∧ (∀ i, i < nb → stepB v (B i 0) (B i 1) = true) ∧ spotB v fp fa fw = true) := ⟨ok, h, hB, hst, hsp⟩
 have hn := ok.n1
 obtain ⟨fq, rfl, hfq, hfw, hfa⟩ : ∃ q : Nat, fp = (q : Int) ∧ q < v.n ∧ (fw = 1 ∨ fw = -1) ∧ (0 ≤ fa ∧ fa ≤ (v.P q).ln) := spot_nat hsp
 have hl0 := ok.ln fq hfq
 have hfa : 0 ≤ fa ∧ fa ≤ 10000000 := by omega
 have S0 : Hid (Below w.heap.size w (w.alloc (.cells #[.int .i64 (fq : Int), .int .i64 fa, .int .i64 fw, .int .i64 lg, .slice ba nb bk] 90)) ∧ Box (w.alloc (.cells #[.int .i64 (fq : Int), .int .i64 fa, .int .i64 fw, .int .i64 lg, .slice ba nb bk] 90)) w.heap.size 90 #[.int .i64 (fq : Int), .int .i64 fa, .int .i64 fw, .int .i64 lg, .slice ba nb bk]) := ⟨bel1 _ _, Box.new _ _ _⟩
 have HF0 : Hid (farI (v.P fq).ln fa fw = hvF v (fq : Int) fa fw B 0) := by show _ = _; rw [hvF, Int.toNat_natCast]
 have hf0 : 0 ≤ farI (v.P fq).ln fa fw ∧ farI (v.P fq).ln fa fw ≤ 10000000 := by have := hv_bnd (B := B) ok hsp 0 (fun i hi => absurd hi (Nat.not_lt_zero _)); rw [← HF0.out] at this; omega
 have hw0 : IntKind.i64.wrap (lg - farI (v.P fq).ln fa fw) = lg - farI (v.P fq).ln fa fw := by rw [IntKind.wrap_i64]; omega
 clear ok h hB hst hsp
 obtain ⟨R, HR⟩ : ∃ R, Hid (needB v (fq : Int) fa fw lg nb B = R) := ⟨_, rfl⟩
 rw [HR.out]
 go_enter Tryz.func45, Tryz.ntmps45
 go_upto_region 1 with fail
 generalize (w.alloc (.cells #[.int .i64 (fq : Int), .int .i64 fa, .int .i64 fw, .int .i64 lg, .slice ba nb bk] 90)) = V0 at S0 ⊢
 have t0 := S0.out.2.cel 0
 have t1 := S0.out.2.cel 1
 have t2 := S0.out.2.cel 2
 have t3 := S0.out.2.cel 3
 have t4 := S0.out.2.cel 4
 have MD : Hid (Below w.heap.size w V0.drew ∧ Box V0.drew w.heap.size 90 #[.int .i64 (fq : Int), .int .i64 fa, .int .i64 fw, .int .i64 lg, .slice ba nb bk]) := ⟨S0.out.1.drew, S0.out.2.drew⟩
 go_wp2_with fail
 refine wp_region_held_drew (S := (fun wx : World => wx.cell? ⟨w.heap.size, 0, none⟩ = some (.int .i64 (fq : Int)) ∧ wx.cell? ⟨w.heap.size, 1, none⟩ = some (.int .i64 fa) ∧ wx.cell? ⟨w.heap.size, 2, none⟩ = some (.int .i64 fw) ∧ wx.cell? ⟨w.heap.size, 3, none⟩ = some (.int .i64 lg) ∧ wx.cell? ⟨w.heap.size, 4, none⟩ = some (.slice ba nb bk))) (by kernel_rfl) ?_ (fun hHeld => ?_)
 ·
  exact ⟨t0, t1, t2, t3, t4⟩
 refine tk 0 ?_
 refine tk 1 ?_
 refine tk 2 ?_
 refine tk 3 ?_
 refine tk 4 ?_
 refine tk 6 ?_
 refine tk 7 ?_
 refine tk 8 ?_
 refine rl 5 fun K hK => ?_
 go_simp
 refine (step79 (fq : Int) fa fw _).mono ?_
 rintro e w1 ⟨rfl, hb1⟩
 have M1 : Hid (Below w.heap.size w w1 ∧ Box w1 w.heap.size 90 #[.int .i64 (fq : Int), .int .i64 fa, .int .i64 fw, .int .i64 lg, .slice ba nb bk]) := ⟨MD.out.1.trans (hb1.mono MD.out.1.size), MD.out.2.mono hb1 nr⟩
 clear hb1
 go_wp2_with fail
 refine hK.out _ _ ?_ (fun hHeld5 => ?_)
 ·
  exact ⟨M1.out.2.cell 0, M1.out.2.cell 1, M1.out.2.cell 2, M1.out.2.cell 3, M1.out.2.cell 4⟩
 clear hK K
 refine rl 9 fun K hK => ?_
 go_simp
 refine (along98 H.out.1 fq fw fa w1 (H.out.2.1.mono M1.out.1 nr) hfq hfa).mono ?_
 rintro e w2 ⟨rfl, hb2⟩
 have M2 : Hid (Below w.heap.size w w2 ∧ Box w2 w.heap.size 90 #[.int .i64 (fq : Int), .int .i64 fa, .int .i64 fw, .int .i64 lg, .slice ba nb bk]) := ⟨M1.out.1.trans (hb2.mono M1.out.1.size), M1.out.2.mono hb2 nr⟩
 clear hb2
 go_wp2_with fail
 refine hK.out _ _ ?_ (fun hHeld9 => ?_)
 ·
  exact ⟨M2.out.2.cell 0, M2.out.2.cell 1, M2.out.2.cell 2, M2.out.2.cell 3, M2.out.2.cell 4⟩
 clear hK K
 refine tk 10 ?_
 refine tk 11 ?_
 refine wpAnyH_done (by kernel_rfl) ?_ _
 clear t0 t1 t2 t3 t4 S0 MD M1
 have t4 := M2.out.2.cel 4
 go_wp2_with fail
 clear t4
 go_loopw [5, 22] (fun u c wr => ∃ (k : Nat) (x : Int), k ≤ nb ∧ c = .int .i64 k ∧ u = .int .i64 x ∧ Hid (x = lg - hvF v (fq : Int) fa fw B k) ∧ Hid (∀ q, q < k → hvF v (fq : Int) fa fw B q < lg) ∧ Hid (Below w.heap.size w wr ∧ Box wr w.heap.size 90 #[.int .i64 (fq : Int), .int .i64 fa, .int .i64 fw, .int .i64 lg, .slice ba nb bk])) (fun _ c _ => nb - (intOf c).toNat)
 case atStart => exact ⟨0, _, Nat.zero_le _, rfl, rfl, by show _ = _; rw [← HF0.out, ← hw0], fun q hq => absurd hq (Nat.not_lt_zero _), M2⟩
 case round =>
  clear M2
  obtain ⟨k, x, hk, rfl, rfl, HX, HK, T⟩ := hrel
  have HBD : Hid (-3000000000 ≤ x ∧ x ≤ 100000) := by
   have h1 := hv_bnd H.out.1 H.out.2.2.2.2 k fun i hi => H.out.2.2.2.1 i (by omega)
   have := HX.out
   show _ ∧ _
   omega
  by_cases hlt : k < nb
  ·
   obtain ⟨bb, bo, hbe, _, hbl, hbc⟩ := H.out.2.2.1 (by omega)
   obtain ⟨sp, HSP, hspn, _⟩ : ∃ q : Nat, Hid (B k 0 = (q : Int)) ∧ q < v.n ∧ (B k 1 = 1 ∨ B k 1 = -1) := step_nat (H.out.2.2.2.1 k hlt)
   have hk0 : (0 : Int) ≤ (k : Int) := by omega
   have hkn : (k : Int) < (nb : Int) := by omega
   have d0 : wr.cell? ⟨bb, bo + k * 2, none⟩ = some (.int .i64 (B k 0)) := cell_keep T.out.1 hbl (hbc k hlt 0 (by omega))
   have d1 : wr.cell? ⟨bb, bo + k * 2 + 1, none⟩ = some (.int .i64 (B k 1)) := cell_keep T.out.1 hbl (hbc k hlt 1 (by omega))
   rw [HSP.out] at d0
   have hbs : ba = some ⟨bb, bo, none⟩ := hbe
   subst hbs
   have hln := H.out.1.ln sp hspn
   have hwx : IntKind.i64.wrap (x - (v.P sp).ln) = x - (v.P sp).ln := by have := HBD.out; rw [IntKind.wrap_i64]; omega
   have HNX : Hid (x - (v.P sp).ln = lg - hvF v (fq : Int) fa fw B (k + 1)) := by show _ = _; rw [hvF, HX.out, HSP.out, Int.toNat_natCast]; omega
   have T1 : Hid ((Below w.heap.size w (wr.alloc (.cells #[.int .i64 (sp : Int), .int .i64 (B k 1)] 74)) ∧ Box (wr.alloc (.cells #[.int .i64 (sp : Int), .int .i64 (B k 1)] 74)) w.heap.size 90 #[.int .i64 (fq : Int), .int .i64 fa, .int .i64 fw, .int .i64 lg, .slice (some ⟨bb, bo, none⟩) nb bk]) ∧ Box (wr.alloc (.cells #[.int .i64 (sp : Int), .int .i64 (B k 1)] 74)) wr.heap.size 74 #[.int .i64 (sp : Int), .int .i64 (B k 1)]) := ⟨⟨T.out.1.alloc T.out.1.size _, T.out.2.alloc _⟩, Box.new _ _ _⟩
   clear hbc hbl T
   by_cases hx : x ≤ 0
   ·
    have HT : Hid (R = false) := HR.out.symm.trans (by rw [needB, allT_no hlt (decide_eq_false (by have := HX.out; omega))]; rfl)
    have HE : Hid (Below w.heap.size w (wr.alloc (.cells #[.int .i64 (sp : Int), .int .i64 (B k 1)] 74))) := T1.out.1.1
    clear T1
    go_wp2_with fail
    go_ret
    exact ⟨(k : Int), rfl, by rw [HT.out]; exact decide_eq_false (by omega), HE.out⟩
   ·
    go_upto_region 7 with fail
    generalize (wr.alloc (.cells #[.int .i64 (sp : Int), .int .i64 (B k 1)] 74)) = V5 at T1 ⊢
    generalize wr.heap.size = sq at T1 ⊢
    have s0 := T1.out.2.cel 0
    have s1 := T1.out.2.cel 1
    go_wp2_with fail
    refine (long99 H.out.1 sp (B k 1) V5 (H.out.2.1.mono T1.out.1.1 nr) hspn).mono ?_
    rintro e w6 ⟨rfl, hb6⟩
    have HK2 : Hid (∀ q, q < k + 1 → hvF v (fq : Int) fa fw B q < lg) := fun q hq => by
     by_cases c : q = k
     ·
      subst c
      have := HX.out
      omega
     ·
      exact HK.out q (by omega)
    have T8 : Hid (Below w.heap.size w w6 ∧ Box w6 w.heap.size 90 #[.int .i64 (fq : Int), .int .i64 fa, .int .i64 fw, .int .i64 lg, .slice (some ⟨bb, bo, none⟩) nb bk]) := ⟨T1.out.1.1.trans (hb6.mono T1.out.1.1.size), T1.out.1.2.mono hb6 nr⟩
    clear hb6 T1 s0 s1 d0 d1
    go_wp2_with fail
    go_roundw
    case rel => exact ⟨k + 1, _, by omega, by go_num, rfl, HNX, HK2, T8⟩
    case measure => simp [intOf]; omega
  ·
   have hge : ¬ ((k : Int) < (nb : Int)) := by omega
   have hkk : k = nb := by omega
   have t4 := T.out.2.cel 4
   have HA : Hid (allT (fun i => decide (hvF v (fq : Int) fa fw B i < lg)) nb = true) := allT_yes fun q hq => decide_eq_true (HK.out q (by omega))
   by_cases hx : x ≤ 0
   ·
    have HT : Hid (R = true) := HR.out.symm.trans (by rw [needB, HA.out, decide_eq_true (by have := HX.out; rw [hkk] at this; omega)]; rfl)
    have hx' : ¬ (0 < x) := by omega
    go_wp2_with fail
    go_ret
    exact ⟨(nb : Int), rfl, by rw [HT.out]; exact decide_eq_true rfl, T.out.1⟩
   ·
    have HT : Hid (R = false) := HR.out.symm.trans (by rw [needB, HA.out, decide_eq_false (by have := HX.out; rw [hkk] at this; omega)]; rfl)
    have hx' : 0 < x := by omega
    have hwn : IntKind.i64.wrap ((nb : Int) + 1) = (nb : Int) + 1 := by rw [IntKind.wrap_i64]; omega
    go_wp2_with fail
    go_ret
    exact ⟨(nb : Int) + 1, rfl, by rw [HT.out]; exact decide_eq_false (by omega), T.out.1⟩
end Go.Proofs.YtjhmaofjmalglaaGreat
