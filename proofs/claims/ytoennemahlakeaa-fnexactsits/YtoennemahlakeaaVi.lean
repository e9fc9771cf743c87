import Derived.Test.YtoennemahlakeaaVg
import Derived.Test.YtoennemahlakeaaVf
import Derived.Test.YtoennemahlakeaaTu
import Derived.Test.YtoennemahlakeaaTv
namespace Go.Proofs.Ytoennemahlakeaa
open Go.RowKit Go.Lib

theorem lies_ok {v : Nv} {nl : Nat} {L : Nat → Int} (h : liesF v.n v.P v.m v.J nl L = true) : (netF v.n v.P v.m v.J).1 = 0 := by
  rw [liesF, Bool.and_eq_true] at h
  exact of_decide_eq_true h.1
set_option maxHeartbeats 4000000 in
theorem specSits22 {v : Nv} (pa : Option Addr) (pc : Nat) (ja : Option Addr) (jc : Nat) (fp fa fw lg : Int) (nb : Nat) (B : Nat → Nat → Int) (ba : Option Addr) (bk : Nat) (la : Option Addr) (nl lc : Nat) (L : Nat → Int) (w : World) (hn : v.n ≤ 1048576) (hm : v.m ≤ 1048576) (hnb : nb ≤ 1048576) (hnl : nl ≤ 1048576) (hP : PsAt 0 w pa v.n v.P) (hJ : JsAt 0 w ja v.m v.J) (hps : ∀ i, i < v.n → (v.P i).nm.size ≤ maxLen) (hjs : ∀ i, i < v.m → (v.J i).ne ≤ 1048576 ∧ (v.J i).nm.size ≤ maxLen) (hB : NsAt 2 0 w ba nb B) (hL : IsAt 0 w la nl L) :
    Calls Try.prog 22 #[.agg #[.slice pa v.n pc, .slice ja v.m jc], .slice la nl lc, .agg #[.int .i64 fp, .int .i64 fa, .int .i64 fw, .int .i64 lg, .slice ba nb bk]] w fun e w' => e = .returned (.bool (sitsF v nl L fp fa fw lg nb B)) ∧ Below w.heap.size w w' := by
  have H : Hid (PsAt 0 w pa v.n v.P ∧ JsAt 0 w ja v.m v.J ∧ (∀ i, i < v.n → (v.P i).nm.size ≤ maxLen) ∧ (∀ i, i < v.m → (v.J i).ne ≤ 1048576 ∧ (v.J i).nm.size ≤ maxLen) ∧ NsAt 2 0 w ba nb B ∧ IsAt 0 w la nl L) := ⟨hP, hJ, hps, hjs, hB, hL⟩
  have S0 : Hid (Below w.heap.size w ((w.alloc (.cells #[.slice pa v.n pc, .slice ja v.m jc] 32)).alloc (.cells #[.int .i64 fp, .int .i64 fa, .int .i64 fw, .int .i64 lg, .slice ba nb bk] 48)) ∧ Box ((w.alloc (.cells #[.slice pa v.n pc, .slice ja v.m jc] 32)).alloc (.cells #[.int .i64 fp, .int .i64 fa, .int .i64 fw, .int .i64 lg, .slice ba nb bk] 48)) (w.heap.size) 32 #[.slice pa v.n pc, .slice ja v.m jc] ∧ Box ((w.alloc (.cells #[.slice pa v.n pc, .slice ja v.m jc] 32)).alloc (.cells #[.int .i64 fp, .int .i64 fa, .int .i64 fw, .int .i64 lg, .slice ba nb bk] 48)) (w.heap.size + 1) 48 #[.int .i64 fp, .int .i64 fa, .int .i64 fw, .int .i64 lg, .slice ba nb bk]) := ⟨bel2 _ _ _, (Box.new _ _ _).alloc _, by have := Box.new (w.alloc (.cells #[.slice pa v.n pc, .slice ja v.m jc] 32)) 48 #[.int .i64 fp, .int .i64 fa, .int .i64 fw, .int .i64 lg, .slice ba nb bk]; simpa using this⟩
  clear hP hJ hps hjs hB hL
  obtain ⟨R, HR⟩ : ∃ R, Hid (sitsF v nl L fp fa fw lg nb B = R) := ⟨_, rfl⟩
  rw [HR.out]
  obtain ⟨u, HU⟩ : ∃ u, Hid (liesF v.n v.P v.m v.J nl L = u) := ⟨_, rfl⟩
  go_enter Try.func22, Try.ntmps22
  go_upto_region 1 with fail
  generalize ((w.alloc (.cells #[.slice pa v.n pc, .slice ja v.m jc] 32)).alloc (.cells #[.int .i64 fp, .int .i64 fa, .int .i64 fw, .int .i64 lg, .slice ba nb bk] 48)) = V0 at S0 ⊢
  have a0 : V0.cell? ⟨w.heap.size, 0, none⟩ = some (.slice pa v.n pc) := S0.out.2.1.cell 0
  have a1 : V0.cell? ⟨w.heap.size, 1, none⟩ = some (.slice ja v.m jc) := S0.out.2.1.cell 1
  have b0 : V0.cell? ⟨w.heap.size + 1, 0, none⟩ = some (.int .i64 fp) := S0.out.2.2.cell 0
  have b1 : V0.cell? ⟨w.heap.size + 1, 1, none⟩ = some (.int .i64 fa) := S0.out.2.2.cell 1
  have b2 : V0.cell? ⟨w.heap.size + 1, 2, none⟩ = some (.int .i64 fw) := S0.out.2.2.cell 2
  have b3 : V0.cell? ⟨w.heap.size + 1, 3, none⟩ = some (.int .i64 lg) := S0.out.2.2.cell 3
  have b4 : V0.cell? ⟨w.heap.size + 1, 4, none⟩ = some (.slice ba nb bk) := S0.out.2.2.cell 4
  go_wp2_with fail
  clear a0 a1 b0 b1 b2 b3 b4
  refine (spec8 pa v.n pc v.P ja v.m jc v.J la nl lc L _ hn hm hnl (H.out.1.mono (Nat.le_refl _) S0.out.1 (Nat.le_refl _)) (H.out.2.1.mono (Nat.le_refl _) S0.out.1 (Nat.le_refl _)) H.out.2.2.1 H.out.2.2.2.1 (H.out.2.2.2.2.2.mono (Nat.le_refl _) S0.out.1 (Nat.le_refl _))).mono ?_
  rintro e w1 ⟨he, hb1⟩
  rw [HU.out] at he
  subst he
  have M1 : Hid (Below w.heap.size w w1 ∧ Box w1 (w.heap.size) 32 #[.slice pa v.n pc, .slice ja v.m jc] ∧ Box w1 (w.heap.size + 1) 48 #[.int .i64 fp, .int .i64 fa, .int .i64 fw, .int .i64 lg, .slice ba nb bk]) := ⟨S0.out.1.trans (hb1.mono S0.out.1.size), S0.out.2.1.mono hb1 (Nat.le_refl _), S0.out.2.2.mono hb1 (Nat.le_refl _)⟩
  clear hb1 S0
  cases u with
  | false =>
    have HT : Hid (R = false) := HR.out.symm.trans (by rw [sitsF, HU.out]; rfl)
    have HE : Hid (Below w.heap.size w w1) := M1.out.1
    go_wp2_with fail
    go_ret
    exact ⟨by rw [HT.out]; rfl, HE.out⟩
  | true =>
    have HZ : Hid ((netF v.n v.P v.m v.J).1 = 0) := lies_ok HU.out
    have HK : Hid v.Ok := nvOk HZ.out
    have HNL : Hid (nl = v.m) := (lies_parts HU.out).1
    have HLB : Hid (∀ i, i < v.m → lieB v.J L i = true) := (lies_parts HU.out).2
    have HTF : Hid (trainF v fp fa fw lg nb B = trnB v fp fa fw lg nb B) := by show _ = _; rw [trainF, decide_eq_true HZ.out, Bool.true_and]
    obtain ⟨u2, HU2⟩ : ∃ u, Hid (trnB v fp fa fw lg nb B = u) := ⟨_, rfl⟩
    have a0 : w1.cell? ⟨w.heap.size, 0, none⟩ = some (.slice pa v.n pc) := M1.out.2.1.cell 0
    have a1 : w1.cell? ⟨w.heap.size, 1, none⟩ = some (.slice ja v.m jc) := M1.out.2.1.cell 1
    have b0 : w1.cell? ⟨w.heap.size + 1, 0, none⟩ = some (.int .i64 fp) := M1.out.2.2.cell 0
    have b1 : w1.cell? ⟨w.heap.size + 1, 1, none⟩ = some (.int .i64 fa) := M1.out.2.2.cell 1
    have b2 : w1.cell? ⟨w.heap.size + 1, 2, none⟩ = some (.int .i64 fw) := M1.out.2.2.cell 2
    have b3 : w1.cell? ⟨w.heap.size + 1, 3, none⟩ = some (.int .i64 lg) := M1.out.2.2.cell 3
    have b4 : w1.cell? ⟨w.heap.size + 1, 4, none⟩ = some (.slice ba nb bk) := M1.out.2.2.cell 4
    go_wp2_with fail
    clear a0 a1 b0 b1 b2 b3 b4
    refine (train37 HK.out pa pc ja jc fp fa fw lg nb B ba bk w1 hnb (H.out.1.mono (Nat.le_refl _) M1.out.1 (Nat.le_refl _)) (H.out.2.1.mono (Nat.le_refl _) M1.out.1 (Nat.le_refl _)) (H.out.2.2.2.2.1.mono (Nat.le_refl _) M1.out.1 (Nat.le_refl _))).mono ?_
    rintro e w2 ⟨he, hb2⟩
    rw [HU2.out] at he
    subst he
    have M2 : Hid (Below w.heap.size w w2 ∧ Box w2 (w.heap.size) 32 #[.slice pa v.n pc, .slice ja v.m jc] ∧ Box w2 (w.heap.size + 1) 48 #[.int .i64 fp, .int .i64 fa, .int .i64 fw, .int .i64 lg, .slice ba nb bk]) := ⟨M1.out.1.trans (hb2.mono M1.out.1.size), M1.out.2.1.mono hb2 (Nat.le_refl _), M1.out.2.2.mono hb2 (Nat.le_refl _)⟩
    clear hb2 M1
    cases u2 with
    | false =>
      have HT : Hid (R = false) := HR.out.symm.trans (by rw [sitsF, HU.out, HTF.out, HU2.out]; rfl)
      have HE : Hid (Below w.heap.size w w2) := M2.out.1
      go_wp2_with fail
      go_ret
      exact ⟨by rw [HT.out]; rfl, HE.out⟩
    | true =>
      have HTR : Hid (spotB v fp fa fw = true ∧ nb ≤ 200 ∧ ∀ i, i < nb → stepB v (B i 0) (B i 1) = true) := (trn_parts (HTF.out.trans HU2.out)).2
      have HT : Hid (R = railedB v L fp fw nb B) := HR.out.symm.trans (by rw [sitsF, HU.out, HTF.out, HU2.out]; rfl)
      have a0 : w2.cell? ⟨w.heap.size, 0, none⟩ = some (.slice pa v.n pc) := M2.out.2.1.cell 0
      have a1 : w2.cell? ⟨w.heap.size, 1, none⟩ = some (.slice ja v.m jc) := M2.out.2.1.cell 1
      have b0 : w2.cell? ⟨w.heap.size + 1, 0, none⟩ = some (.int .i64 fp) := M2.out.2.2.cell 0
      have b1 : w2.cell? ⟨w.heap.size + 1, 1, none⟩ = some (.int .i64 fa) := M2.out.2.2.cell 1
      have b2 : w2.cell? ⟨w.heap.size + 1, 2, none⟩ = some (.int .i64 fw) := M2.out.2.2.cell 2
      have b3 : w2.cell? ⟨w.heap.size + 1, 3, none⟩ = some (.int .i64 lg) := M2.out.2.2.cell 3
      have b4 : w2.cell? ⟨w.heap.size + 1, 4, none⟩ = some (.slice ba nb bk) := M2.out.2.2.cell 4
      go_wp2_with fail
      clear a0 a1 b0 b1 b2 b3 b4
      rw [HNL.out]
      refine (sits45 HK.out pa pc ja jc fp fa fw lg nb B ba bk la lc L w2 HTR.out.1 HTR.out.2.1 HTR.out.2.2 (H.out.2.1.mono (Nat.le_refl _) M2.out.1 (Nat.le_refl _)) (H.out.2.2.2.2.1.mono (Nat.le_refl _) M2.out.1 (Nat.le_refl _)) (by have := (H.out.2.2.2.2.2.mono (Nat.le_refl _) M2.out.1 (Nat.le_refl _)); rwa [HNL.out] at this) HLB.out).mono ?_
      rw [← HT.out]
      rintro e w3 ⟨rfl, hb3⟩
      have HE : Hid (Below w.heap.size w w3) := M2.out.1.trans (hb3.mono M2.out.1.size)
      clear hb3 M2
      go_wp2_with fail
      go_ret
      exact ⟨rfl, HE.out⟩
set_option maxRecDepth 100000 in
set_option maxHeartbeats 16000000 in
theorem law6 {v : Nv} (pa : Option Addr) (pc : Nat) (ja : Option Addr) (jc : Nat) (la : Option Addr) (nl lc : Nat) (L : Nat → Int) (fp fa fw lg : Int) (nb : Nat) (B : Nat → Nat → Int) (ba : Option Addr) (bk : Nat) (w : World) (hn : v.n ≤ maxLen) (hm : v.m ≤ maxLen) (hl0 : nl ≤ maxLen) (hl : nb ≤ maxLen) (hP : PsAt 0 w pa v.n v.P) (hJ : JsAt 0 w ja v.m v.J) (hps : ∀ i, i < v.n → (v.P i).nm.size ≤ maxLen) (hjs : ∀ i, i < v.m → (v.J i).nm.size ≤ maxLen ∧ (v.J i).ne ≤ maxLen) (hB : NsAt 2 0 w ba nb B) (hL : IsAt 0 w la nl L) :
    Calls Try.prog 6 #[.agg #[.slice pa v.n pc, .slice ja v.m jc], .slice la nl lc, .agg #[.int .i64 fp, .int .i64 fa, .int .i64 fw, .int .i64 lg, .slice ba nb bk]] w fun e w' => e = .returned (.bool true) ∧ Below w.heap.size w w' := by
  have H : Hid (PsAt 0 w pa v.n v.P ∧ JsAt 0 w ja v.m v.J ∧ NsAt 2 0 w ba nb B ∧ (∀ i, i < v.n → (v.P i).nm.size ≤ maxLen) ∧ (∀ i, i < v.m → (v.J i).nm.size ≤ maxLen ∧ (v.J i).ne ≤ maxLen) ∧ IsAt 0 w la nl L) := ⟨hP, hJ, hB, hps, hjs, hL⟩
  have S0 : Hid (Below w.heap.size w ((w.alloc (.cells #[.slice pa v.n pc, .slice ja v.m jc] 25)).alloc (.cells #[.int .i64 fp, .int .i64 fa, .int .i64 fw, .int .i64 lg, .slice ba nb bk] 42)) ∧ Box ((w.alloc (.cells #[.slice pa v.n pc, .slice ja v.m jc] 25)).alloc (.cells #[.int .i64 fp, .int .i64 fa, .int .i64 fw, .int .i64 lg, .slice ba nb bk] 42)) (w.heap.size) 25 #[.slice pa v.n pc, .slice ja v.m jc] ∧ Box ((w.alloc (.cells #[.slice pa v.n pc, .slice ja v.m jc] 25)).alloc (.cells #[.int .i64 fp, .int .i64 fa, .int .i64 fw, .int .i64 lg, .slice ba nb bk] 42)) (w.heap.size + 1) 42 #[.int .i64 fp, .int .i64 fa, .int .i64 fw, .int .i64 lg, .slice ba nb bk]) := ⟨bel2 _ _ _, (Box.new _ _ _).alloc _, by have := Box.new (w.alloc (.cells #[.slice pa v.n pc, .slice ja v.m jc] 25)) 42 #[.int .i64 fp, .int .i64 fa, .int .i64 fw, .int .i64 lg, .slice ba nb bk]; simpa using this⟩
  clear hP hJ hB hps hjs hL
  unfold maxLen at hl0
  by_cases hl2 : 1048576 < nl
  · have zl : decide ((1048576 : Int) < (nl : Int)) = true := by simp; omega
    go_enter Try.func6, Try.ntmps6
    go_wp2_with fail
    go_ret
    exact ⟨rfl, S0.out.1⟩
  have zl : decide ((1048576 : Int) < (nl : Int)) = false := by simp; omega
  have hl1 : nl ≤ 1048576 := by omega
  clear hl2
  go_enter Try.func6, Try.ntmps6
  go_upto_region 1 with fail
  generalize ((w.alloc (.cells #[.slice pa v.n pc, .slice ja v.m jc] 25)).alloc (.cells #[.int .i64 fp, .int .i64 fa, .int .i64 fw, .int .i64 lg, .slice ba nb bk] 42)) = V0 at S0 ⊢
  have a0 : V0.cell? ⟨w.heap.size, 0, none⟩ = some (.slice pa v.n pc) := S0.out.2.1.cell 0
  have a1 : V0.cell? ⟨w.heap.size, 1, none⟩ = some (.slice ja v.m jc) := S0.out.2.1.cell 1
  have b0 : V0.cell? ⟨w.heap.size + 1, 0, none⟩ = some (.int .i64 fp) := S0.out.2.2.cell 0
  have b1 : V0.cell? ⟨w.heap.size + 1, 1, none⟩ = some (.int .i64 fa) := S0.out.2.2.cell 1
  have b2 : V0.cell? ⟨w.heap.size + 1, 2, none⟩ = some (.int .i64 fw) := S0.out.2.2.cell 2
  have b3 : V0.cell? ⟨w.heap.size + 1, 3, none⟩ = some (.int .i64 lg) := S0.out.2.2.cell 3
  have b4 : V0.cell? ⟨w.heap.size + 1, 4, none⟩ = some (.slice ba nb bk) := S0.out.2.2.cell 4
  go_wp2_with fail
  clear a0 a1 b0 b1 b2 b3 b4
  refine (szNet5 pa v.n pc v.P ja v.m jc v.J 1048576 V0 hn hm (by omega) (by omega) (H.out.1.mono (Nat.le_refl _) S0.out.1 (Nat.le_refl _)) (H.out.2.1.mono (Nat.le_refl _) S0.out.1 (Nat.le_refl _)) H.out.2.2.2.1 H.out.2.2.2.2.1).mono ?_
  rintro e w1 ⟨r, rfl, hr1, hr2, hb1⟩
  have S1 : Hid (Below w.heap.size w w1 ∧ Box w1 (w.heap.size) 25 #[.slice pa v.n pc, .slice ja v.m jc] ∧ Box w1 (w.heap.size + 1) 42 #[.int .i64 fp, .int .i64 fa, .int .i64 fw, .int .i64 lg, .slice ba nb bk]) := ⟨S0.out.1.trans (hb1.mono S0.out.1.size), S0.out.2.1.mono hb1 (Nat.le_refl _), S0.out.2.2.mono hb1 (Nat.le_refl _)⟩
  clear hb1 S0
  by_cases hneg : r < 0
  · clear hr2
    go_wp2_with fail
    go_ret
    exact ⟨rfl, S1.out.1⟩
  obtain ⟨hn2, hm2, hne2⟩ := hr2 (by omega)
  have hn1 : v.n ≤ 1048576 := by omega
  have hm1 : v.m ≤ 1048576 := by omega
  have HNE : Hid (∀ i, i < v.m → (v.J i).ne ≤ 1048576) := fun i hi => by have := hne2 i hi; omega
  have HNE2 : Hid (∀ i, i < v.m → (v.J i).ne ≤ 1048576 ∧ (v.J i).nm.size ≤ maxLen) := fun i hi => ⟨HNE.out i hi, (H.out.2.2.2.2.1 i hi).1⟩
  clear hr2 hne2 hn2 hm2
  have a0 : w1.cell? ⟨w.heap.size, 0, none⟩ = some (.slice pa v.n pc) := S1.out.2.1.cell 0
  have a1 : w1.cell? ⟨w.heap.size, 1, none⟩ = some (.slice ja v.m jc) := S1.out.2.1.cell 1
  have b0 : w1.cell? ⟨w.heap.size + 1, 0, none⟩ = some (.int .i64 fp) := S1.out.2.2.cell 0
  have b1 : w1.cell? ⟨w.heap.size + 1, 1, none⟩ = some (.int .i64 fa) := S1.out.2.2.cell 1
  have b2 : w1.cell? ⟨w.heap.size + 1, 2, none⟩ = some (.int .i64 fw) := S1.out.2.2.cell 2
  have b3 : w1.cell? ⟨w.heap.size + 1, 3, none⟩ = some (.int .i64 lg) := S1.out.2.2.cell 3
  have b4 : w1.cell? ⟨w.heap.size + 1, 4, none⟩ = some (.slice ba nb bk) := S1.out.2.2.cell 4
  go_wp2_with fail
  clear a0 a1 b0 b1 b2 b3 b4
  refine (szTrain14 fp fa fw lg nb ba bk r w1 hl (by omega) (by omega)).mono ?_
  rintro e w2 ⟨r2, rfl, hs1, hs2, hb2⟩
  have S2 : Hid (Below w.heap.size w w2 ∧ Box w2 (w.heap.size) 25 #[.slice pa v.n pc, .slice ja v.m jc] ∧ Box w2 (w.heap.size + 1) 42 #[.int .i64 fp, .int .i64 fa, .int .i64 fw, .int .i64 lg, .slice ba nb bk]) := ⟨S1.out.1.trans (hb2.mono S1.out.1.size), S1.out.2.1.mono hb2 (Nat.le_refl _), S1.out.2.2.mono hb2 (Nat.le_refl _)⟩
  clear hb2 S1
  by_cases hneg2 : r2 < 0
  · clear hs2
    go_wp2_with fail
    go_ret
    exact ⟨rfl, S2.out.1⟩
  have hnb1 : nb ≤ 1048576 := by have := hs2 (by omega); omega
  clear hs2 hs1
  obtain ⟨R, HR⟩ : ∃ R, Hid (sitsF v nl L fp fa fw lg nb B = R) := ⟨_, rfl⟩
  have MD : Hid (Below w.heap.size w w2.drew ∧ Box w2.drew (w.heap.size) 25 #[.slice pa v.n pc, .slice ja v.m jc] ∧ Box w2.drew (w.heap.size + 1) 42 #[.int .i64 fp, .int .i64 fa, .int .i64 fw, .int .i64 lg, .slice ba nb bk]) := ⟨S2.out.1.drew, S2.out.2.1.drew, S2.out.2.2.drew⟩
  have a0 : w2.cell? ⟨w.heap.size, 0, none⟩ = some (.slice pa v.n pc) := S2.out.2.1.cell 0
  have a1 : w2.cell? ⟨w.heap.size, 1, none⟩ = some (.slice ja v.m jc) := S2.out.2.1.cell 1
  have b0 : w2.cell? ⟨w.heap.size + 1, 0, none⟩ = some (.int .i64 fp) := S2.out.2.2.cell 0
  have b1 : w2.cell? ⟨w.heap.size + 1, 1, none⟩ = some (.int .i64 fa) := S2.out.2.2.cell 1
  have b2 : w2.cell? ⟨w.heap.size + 1, 2, none⟩ = some (.int .i64 fw) := S2.out.2.2.cell 2
  have b3 : w2.cell? ⟨w.heap.size + 1, 3, none⟩ = some (.int .i64 lg) := S2.out.2.2.cell 3
  have b4 : w2.cell? ⟨w.heap.size + 1, 4, none⟩ = some (.slice ba nb bk) := S2.out.2.2.cell 4
  go_wp2_with fail
  refine wp_region_held_drew (S := (fun wx : World => wx.cell? ⟨w.heap.size, 0, none⟩ = some (.slice pa v.n pc) ∧ wx.cell? ⟨w.heap.size, 1, none⟩ = some (.slice ja v.m jc) ∧ wx.cell? ⟨w.heap.size + 1, 0, none⟩ = some (.int .i64 fp) ∧ wx.cell? ⟨w.heap.size + 1, 1, none⟩ = some (.int .i64 fa) ∧ wx.cell? ⟨w.heap.size + 1, 2, none⟩ = some (.int .i64 fw) ∧ wx.cell? ⟨w.heap.size + 1, 3, none⟩ = some (.int .i64 lg) ∧ wx.cell? ⟨w.heap.size + 1, 4, none⟩ = some (.slice ba nb bk))) (by kernel_rfl) ?_ (fun hHeld => ?_)
  · exact ⟨a0, a1, b0, b1, b2, b3, b4⟩
  refine tk 0 ?_
  refine tk 2 ?_
  refine tk 4 ?_
  refine rl 1 fun K hK => ?_
  go_simp
  refine (toNetR pa pc ja jc _ hn1 hm1 (H.out.1.mono (Nat.le_refl _) MD.out.1 (Nat.le_refl _)) (H.out.2.1.mono (Nat.le_refl _) MD.out.1 (Nat.le_refl _)) HNE.out).mono ?_
  rintro e w3 ⟨pa1, ja1, rfl, hP3, hJ3, hb3⟩
  have M3 : Hid (Below w.heap.size w w3 ∧ Box w3 (w.heap.size) 25 #[.slice pa v.n pc, .slice ja v.m jc] ∧ Box w3 (w.heap.size + 1) 42 #[.int .i64 fp, .int .i64 fa, .int .i64 fw, .int .i64 lg, .slice ba nb bk]) := ⟨MD.out.1.trans (hb3.mono MD.out.1.size), MD.out.2.1.mono hb3 (Nat.le_refl _), MD.out.2.2.mono hb3 (Nat.le_refl _)⟩
  have Q3 : Hid (PsAt 0 w3 pa1 v.n v.P ∧ JsAt 0 w3 ja1 v.m v.J) := ⟨hP3, hJ3⟩
  clear hb3 hP3 hJ3
  go_wp2_with fail
  refine hK.out _ _ ?_ (fun hHeld1 => ?_)
  · exact ⟨M3.out.2.1.cell 0, M3.out.2.1.cell 1, M3.out.2.2.cell 0, M3.out.2.2.cell 1, M3.out.2.2.cell 2, M3.out.2.2.cell 3, M3.out.2.2.cell 4⟩
  clear hK K
  refine rl 3 fun K hK => ?_
  go_simp
  refine (toIntS10 la nl lc L w3 hl1 (H.out.2.2.2.2.2.mono (Nat.le_refl _) M3.out.1 (Nat.le_refl _))).mono ?_
  rintro e w4 ⟨la1, rfl, hL4, hb4⟩
  have M4 : Hid (Below w.heap.size w w4 ∧ Box w4 (w.heap.size) 25 #[.slice pa v.n pc, .slice ja v.m jc] ∧ Box w4 (w.heap.size + 1) 42 #[.int .i64 fp, .int .i64 fa, .int .i64 fw, .int .i64 lg, .slice ba nb bk]) := ⟨M3.out.1.trans (hb4.mono M3.out.1.size), M3.out.2.1.mono hb4 (Nat.le_refl _), M3.out.2.2.mono hb4 (Nat.le_refl _)⟩
  have Q4 : Hid (PsAt 0 w4 pa1 v.n v.P ∧ JsAt 0 w4 ja1 v.m v.J ∧ IsAt 0 w4 la1 nl L) := ⟨(Q3.out.1.mono (Nat.le_refl _) hb4 (Nat.le_refl _)), (Q3.out.2.mono (Nat.le_refl _) hb4 (Nat.le_refl _)), (hL4.keep (Nat.zero_le _) (Nat.le_refl _) fun _ _ _ => rfl)⟩
  clear hb4 hL4
  go_wp2_with fail
  refine hK.out _ _ ?_ (fun hHeld3 => ?_)
  · exact ⟨M4.out.2.1.cell 0, M4.out.2.1.cell 1, M4.out.2.2.cell 0, M4.out.2.2.cell 1, M4.out.2.2.cell 2, M4.out.2.2.cell 3, M4.out.2.2.cell 4⟩
  clear hK K
  refine rl 5 fun K hK => ?_
  go_simp
  refine (toTrain16 fp fa fw lg nb B ba bk w4 hnb1 (H.out.2.2.1.mono (Nat.le_refl _) M4.out.1 (Nat.le_refl _))).mono ?_
  rintro e w5 ⟨bn, rfl, hB5, hb5⟩
  have M5 : Hid (Below w.heap.size w w5 ∧ Box w5 (w.heap.size) 25 #[.slice pa v.n pc, .slice ja v.m jc] ∧ Box w5 (w.heap.size + 1) 42 #[.int .i64 fp, .int .i64 fa, .int .i64 fw, .int .i64 lg, .slice ba nb bk]) := ⟨M4.out.1.trans (hb5.mono M4.out.1.size), M4.out.2.1.mono hb5 (Nat.le_refl _), M4.out.2.2.mono hb5 (Nat.le_refl _)⟩
  have Q5 : Hid (PsAt 0 w5 pa1 v.n v.P ∧ JsAt 0 w5 ja1 v.m v.J ∧ IsAt 0 w5 la1 nl L ∧ NsAt 2 0 w5 (some ⟨bn, 0, none⟩) nb B) := ⟨(Q4.out.1.mono (Nat.le_refl _) hb5 (Nat.le_refl _)), (Q4.out.2.1.mono (Nat.le_refl _) hb5 (Nat.le_refl _)), (Q4.out.2.2.mono (Nat.le_refl _) hb5 (Nat.le_refl _)), (hB5.keep (Nat.zero_le _) (Nat.le_refl _) fun _ _ _ => rfl)⟩
  clear hb5 hB5
  go_wp2_with fail
  refine hK.out _ _ ?_ (fun hHeld5 => ?_)
  · exact ⟨M5.out.2.1.cell 0, M5.out.2.1.cell 1, M5.out.2.2.cell 0, M5.out.2.2.cell 1, M5.out.2.2.cell 2, M5.out.2.2.cell 3, M5.out.2.2.cell 4⟩
  clear hK K
  refine rl 6 fun K hK => ?_
  go_simp
  refine (specSits22 pa1 v.n ja1 v.m fp fa fw lg nb B (some ⟨bn, 0, none⟩) nb la1 nl nl L w5 hn1 hm1 hnb1 hl1 Q5.out.1 Q5.out.2.1 H.out.2.2.2.1 HNE2.out Q5.out.2.2.2 Q5.out.2.2.1).mono ?_
  rw [HR.out]
  rintro e w6 ⟨rfl, hb6⟩
  have M6 : Hid (Below w.heap.size w w6 ∧ Box w6 (w.heap.size) 25 #[.slice pa v.n pc, .slice ja v.m jc] ∧ Box w6 (w.heap.size + 1) 42 #[.int .i64 fp, .int .i64 fa, .int .i64 fw, .int .i64 lg, .slice ba nb bk]) := ⟨M5.out.1.trans (hb6.mono M5.out.1.size), M5.out.2.1.mono hb6 (Nat.le_refl _), M5.out.2.2.mono hb6 (Nat.le_refl _)⟩
  clear hb6
  go_wp2_with fail
  refine hK.out _ _ ?_ (fun hHeld6 => ?_)
  · exact ⟨M6.out.2.1.cell 0, M6.out.2.1.cell 1, M6.out.2.2.cell 0, M6.out.2.2.cell 1, M6.out.2.2.cell 2, M6.out.2.2.cell 3, M6.out.2.2.cell 4⟩
  clear hK K
  refine tk 7 ?_
  refine wpAnyH_done (by kernel_rfl) ?_ _
  clear a0 a1 b0 b1 b2 b3 b4 MD M3 M4 M5 Q3 Q4 Q5 S2
  have a0 : w6.cell? ⟨w.heap.size, 0, none⟩ = some (.slice pa v.n pc) := M6.out.2.1.cell 0
  have a1 : w6.cell? ⟨w.heap.size, 1, none⟩ = some (.slice ja v.m jc) := M6.out.2.1.cell 1
  have b0 : w6.cell? ⟨w.heap.size + 1, 0, none⟩ = some (.int .i64 fp) := M6.out.2.2.cell 0
  have b1 : w6.cell? ⟨w.heap.size + 1, 1, none⟩ = some (.int .i64 fa) := M6.out.2.2.cell 1
  have b2 : w6.cell? ⟨w.heap.size + 1, 2, none⟩ = some (.int .i64 fw) := M6.out.2.2.cell 2
  have b3 : w6.cell? ⟨w.heap.size + 1, 3, none⟩ = some (.int .i64 lg) := M6.out.2.2.cell 3
  have b4 : w6.cell? ⟨w.heap.size + 1, 4, none⟩ = some (.slice ba nb bk) := M6.out.2.2.cell 4
  go_wp2_with fail
  clear a0 a1 b0 b1 b2 b3 b4
  refine (toNetR pa pc ja jc w6 hn1 hm1 (H.out.1.mono (Nat.le_refl _) M6.out.1 (Nat.le_refl _)) (H.out.2.1.mono (Nat.le_refl _) M6.out.1 (Nat.le_refl _)) HNE.out).mono ?_
  rintro e w7 ⟨pa2, ja2, rfl, hP7, hJ7, hb7⟩
  have M7 : Hid (Below w.heap.size w w7 ∧ Box w7 (w.heap.size) 25 #[.slice pa v.n pc, .slice ja v.m jc] ∧ Box w7 (w.heap.size + 1) 42 #[.int .i64 fp, .int .i64 fa, .int .i64 fw, .int .i64 lg, .slice ba nb bk]) := ⟨M6.out.1.trans (hb7.mono M6.out.1.size), M6.out.2.1.mono hb7 (Nat.le_refl _), M6.out.2.2.mono hb7 (Nat.le_refl _)⟩
  have M8 : Hid (Below w.heap.size w (w7.alloc (.cells #[.slice pa2 v.n v.n, .slice ja2 v.m v.m] 32)) ∧ Box (w7.alloc (.cells #[.slice pa2 v.n v.n, .slice ja2 v.m v.m] 32)) (w.heap.size) 25 #[.slice pa v.n pc, .slice ja v.m jc] ∧ Box (w7.alloc (.cells #[.slice pa2 v.n v.n, .slice ja2 v.m v.m] 32)) (w.heap.size + 1) 42 #[.int .i64 fp, .int .i64 fa, .int .i64 fw, .int .i64 lg, .slice ba nb bk] ∧ Box (w7.alloc (.cells #[.slice pa2 v.n v.n, .slice ja2 v.m v.m] 32)) w7.heap.size 32 #[.slice pa2 v.n v.n, .slice ja2 v.m v.m]) := ⟨M7.out.1.alloc M7.out.1.size _, M7.out.2.1.alloc _, M7.out.2.2.alloc _, Box.new _ _ _⟩
  have Q8 : Hid (PsAt 0 (w7.alloc (.cells #[.slice pa2 v.n v.n, .slice ja2 v.m v.m] 32)) pa2 v.n v.P ∧ JsAt 0 (w7.alloc (.cells #[.slice pa2 v.n v.n, .slice ja2 v.m v.m] 32)) ja2 v.m v.J) := ⟨hP7.mono (Nat.le_refl _) (bel1 _ _) (Nat.le_refl _), hJ7.mono (Nat.le_refl _) (bel1 _ _) (Nat.le_refl _)⟩
  clear hb7 hP7 hJ7 M6 M7
  go_upto_region 12 with fail
  generalize (w7.alloc (.cells #[.slice pa2 v.n v.n, .slice ja2 v.m v.m] 32)) = V8 at M8 Q8 ⊢
  generalize w7.heap.size = xb at M8 ⊢
  go_wp2_with fail
  refine (toIntS10 la nl lc L V8 hl1 (H.out.2.2.2.2.2.mono (Nat.le_refl _) M8.out.1 (Nat.le_refl _))).mono ?_
  rintro e w8 ⟨la2, rfl, hL8, hb8⟩
  have M8a : Hid (Below w.heap.size w w8 ∧ Box w8 (w.heap.size) 25 #[.slice pa v.n pc, .slice ja v.m jc] ∧ Box w8 (w.heap.size + 1) 42 #[.int .i64 fp, .int .i64 fa, .int .i64 fw, .int .i64 lg, .slice ba nb bk] ∧ Box w8 (xb) 32 #[.slice pa2 v.n v.n, .slice ja2 v.m v.m]) := ⟨M8.out.1.trans (hb8.mono M8.out.1.size), M8.out.2.1.mono hb8 (Nat.le_refl _), M8.out.2.2.1.mono hb8 (Nat.le_refl _), M8.out.2.2.2.mono hb8 (Nat.le_refl _)⟩
  have Q8a : Hid (PsAt 0 w8 pa2 v.n v.P ∧ JsAt 0 w8 ja2 v.m v.J ∧ IsAt 0 w8 la2 nl L) := ⟨(Q8.out.1.mono (Nat.le_refl _) hb8 (Nat.le_refl _)), (Q8.out.2.mono (Nat.le_refl _) hb8 (Nat.le_refl _)), (hL8.keep (Nat.zero_le _) (Nat.le_refl _) fun _ _ _ => rfl)⟩
  clear hb8 hL8 M8 Q8
  have a0 : w8.cell? ⟨w.heap.size, 0, none⟩ = some (.slice pa v.n pc) := M8a.out.2.1.cell 0
  have a1 : w8.cell? ⟨w.heap.size, 1, none⟩ = some (.slice ja v.m jc) := M8a.out.2.1.cell 1
  have b0 : w8.cell? ⟨w.heap.size + 1, 0, none⟩ = some (.int .i64 fp) := M8a.out.2.2.1.cell 0
  have b1 : w8.cell? ⟨w.heap.size + 1, 1, none⟩ = some (.int .i64 fa) := M8a.out.2.2.1.cell 1
  have b2 : w8.cell? ⟨w.heap.size + 1, 2, none⟩ = some (.int .i64 fw) := M8a.out.2.2.1.cell 2
  have b3 : w8.cell? ⟨w.heap.size + 1, 3, none⟩ = some (.int .i64 lg) := M8a.out.2.2.1.cell 3
  have b4 : w8.cell? ⟨w.heap.size + 1, 4, none⟩ = some (.slice ba nb bk) := M8a.out.2.2.1.cell 4
  have c0 : w8.cell? ⟨xb, 0, none⟩ = some (.slice pa2 v.n v.n) := M8a.out.2.2.2.cell 0
  have c1 : w8.cell? ⟨xb, 1, none⟩ = some (.slice ja2 v.m v.m) := M8a.out.2.2.2.cell 1
  go_wp2_with fail
  clear a0 a1 b0 b1 b2 b3 b4 c0 c1
  refine (toTrain16 fp fa fw lg nb B ba bk w8 hnb1 (H.out.2.2.1.mono (Nat.le_refl _) M8a.out.1 (Nat.le_refl _))).mono ?_
  rintro e w9 ⟨bq, rfl, hB9, hb9⟩
  have M9 : Hid (Below w.heap.size w w9 ∧ Box w9 (w.heap.size) 25 #[.slice pa v.n pc, .slice ja v.m jc] ∧ Box w9 (w.heap.size + 1) 42 #[.int .i64 fp, .int .i64 fa, .int .i64 fw, .int .i64 lg, .slice ba nb bk] ∧ Box w9 (xb) 32 #[.slice pa2 v.n v.n, .slice ja2 v.m v.m]) := ⟨M8a.out.1.trans (hb9.mono M8a.out.1.size), M8a.out.2.1.mono hb9 (Nat.le_refl _), M8a.out.2.2.1.mono hb9 (Nat.le_refl _), M8a.out.2.2.2.mono hb9 (Nat.le_refl _)⟩
  have M10 : Hid (Below w.heap.size w (w9.alloc (.cells #[.int .i64 fp, .int .i64 fa, .int .i64 fw, .int .i64 lg, .slice (some ⟨bq, 0, none⟩) nb nb] 48)) ∧ Box (w9.alloc (.cells #[.int .i64 fp, .int .i64 fa, .int .i64 fw, .int .i64 lg, .slice (some ⟨bq, 0, none⟩) nb nb] 48)) (w.heap.size) 25 #[.slice pa v.n pc, .slice ja v.m jc] ∧ Box (w9.alloc (.cells #[.int .i64 fp, .int .i64 fa, .int .i64 fw, .int .i64 lg, .slice (some ⟨bq, 0, none⟩) nb nb] 48)) (w.heap.size + 1) 42 #[.int .i64 fp, .int .i64 fa, .int .i64 fw, .int .i64 lg, .slice ba nb bk] ∧ Box (w9.alloc (.cells #[.int .i64 fp, .int .i64 fa, .int .i64 fw, .int .i64 lg, .slice (some ⟨bq, 0, none⟩) nb nb] 48)) (xb) 32 #[.slice pa2 v.n v.n, .slice ja2 v.m v.m] ∧ Box (w9.alloc (.cells #[.int .i64 fp, .int .i64 fa, .int .i64 fw, .int .i64 lg, .slice (some ⟨bq, 0, none⟩) nb nb] 48)) w9.heap.size 48 #[.int .i64 fp, .int .i64 fa, .int .i64 fw, .int .i64 lg, .slice (some ⟨bq, 0, none⟩) nb nb]) := ⟨M9.out.1.alloc M9.out.1.size _, M9.out.2.1.alloc _, M9.out.2.2.1.alloc _, M9.out.2.2.2.alloc _, Box.new _ _ _⟩
  have Q10 : Hid (PsAt 0 (w9.alloc (.cells #[.int .i64 fp, .int .i64 fa, .int .i64 fw, .int .i64 lg, .slice (some ⟨bq, 0, none⟩) nb nb] 48)) pa2 v.n v.P ∧ JsAt 0 (w9.alloc (.cells #[.int .i64 fp, .int .i64 fa, .int .i64 fw, .int .i64 lg, .slice (some ⟨bq, 0, none⟩) nb nb] 48)) ja2 v.m v.J ∧ IsAt 0 (w9.alloc (.cells #[.int .i64 fp, .int .i64 fa, .int .i64 fw, .int .i64 lg, .slice (some ⟨bq, 0, none⟩) nb nb] 48)) la2 nl L ∧ NsAt 2 0 (w9.alloc (.cells #[.int .i64 fp, .int .i64 fa, .int .i64 fw, .int .i64 lg, .slice (some ⟨bq, 0, none⟩) nb nb] 48)) (some ⟨bq, 0, none⟩) nb B) := ⟨(Q8a.out.1.mono (Nat.le_refl _) hb9 (Nat.le_refl _)).mono (Nat.le_refl _) (bel1 _ _) (Nat.le_refl _), (Q8a.out.2.1.mono (Nat.le_refl _) hb9 (Nat.le_refl _)).mono (Nat.le_refl _) (bel1 _ _) (Nat.le_refl _), (Q8a.out.2.2.mono (Nat.le_refl _) hb9 (Nat.le_refl _)).mono (Nat.le_refl _) (bel1 _ _) (Nat.le_refl _), hB9.mono (Nat.zero_le _) (bel1 _ _) (Nat.le_refl _)⟩
  clear hb9 hB9 M8a M9 Q8a
  go_upto_region 14 with fail
  generalize (w9.alloc (.cells #[.int .i64 fp, .int .i64 fa, .int .i64 fw, .int .i64 lg, .slice (some ⟨bq, 0, none⟩) nb nb] 48)) = V10 at M10 Q10 ⊢
  generalize w9.heap.size = yb at M10 ⊢
  have a0 : V10.cell? ⟨w.heap.size, 0, none⟩ = some (.slice pa v.n pc) := M10.out.2.1.cell 0
  have a1 : V10.cell? ⟨w.heap.size, 1, none⟩ = some (.slice ja v.m jc) := M10.out.2.1.cell 1
  have b0 : V10.cell? ⟨w.heap.size + 1, 0, none⟩ = some (.int .i64 fp) := M10.out.2.2.1.cell 0
  have b1 : V10.cell? ⟨w.heap.size + 1, 1, none⟩ = some (.int .i64 fa) := M10.out.2.2.1.cell 1
  have b2 : V10.cell? ⟨w.heap.size + 1, 2, none⟩ = some (.int .i64 fw) := M10.out.2.2.1.cell 2
  have b3 : V10.cell? ⟨w.heap.size + 1, 3, none⟩ = some (.int .i64 lg) := M10.out.2.2.1.cell 3
  have b4 : V10.cell? ⟨w.heap.size + 1, 4, none⟩ = some (.slice ba nb bk) := M10.out.2.2.1.cell 4
  have c0 : V10.cell? ⟨xb, 0, none⟩ = some (.slice pa2 v.n v.n) := M10.out.2.2.2.1.cell 0
  have c1 : V10.cell? ⟨xb, 1, none⟩ = some (.slice ja2 v.m v.m) := M10.out.2.2.2.1.cell 1
  have d0 : V10.cell? ⟨yb, 0, none⟩ = some (.int .i64 fp) := M10.out.2.2.2.2.cell 0
  have d1 : V10.cell? ⟨yb, 1, none⟩ = some (.int .i64 fa) := M10.out.2.2.2.2.cell 1
  have d2 : V10.cell? ⟨yb, 2, none⟩ = some (.int .i64 fw) := M10.out.2.2.2.2.cell 2
  have d3 : V10.cell? ⟨yb, 3, none⟩ = some (.int .i64 lg) := M10.out.2.2.2.2.cell 3
  have d4 : V10.cell? ⟨yb, 4, none⟩ = some (.slice (some ⟨bq, 0, none⟩) nb nb) := M10.out.2.2.2.2.cell 4
  go_wp2_with fail
  clear a0 a1 b0 b1 b2 b3 b4 c0 c1 d0 d1 d2 d3 d4
  refine (implSits23 pa2 v.n ja2 v.m fp fa fw lg nb B (some ⟨bq, 0, none⟩) nb la2 nl nl L V10 hn1 hm1 hnb1 hl1 (Nat.le_refl _) hn (Nat.le_refl _) hm Q10.out.1 Q10.out.2.1 H.out.2.2.2.1 HNE2.out Q10.out.2.2.2 Q10.out.2.2.1).mono ?_
  rw [HR.out]
  rintro e w10 ⟨rfl, hb10⟩
  have M11 : Hid (Below w.heap.size w w10 ∧ Box w10 (w.heap.size) 25 #[.slice pa v.n pc, .slice ja v.m jc] ∧ Box w10 (w.heap.size + 1) 42 #[.int .i64 fp, .int .i64 fa, .int .i64 fw, .int .i64 lg, .slice ba nb bk] ∧ Box w10 (xb) 32 #[.slice pa2 v.n v.n, .slice ja2 v.m v.m] ∧ Box w10 (yb) 48 #[.int .i64 fp, .int .i64 fa, .int .i64 fw, .int .i64 lg, .slice (some ⟨bq, 0, none⟩) nb nb]) := ⟨M10.out.1.trans (hb10.mono M10.out.1.size), M10.out.2.1.mono hb10 (Nat.le_refl _), M10.out.2.2.1.mono hb10 (Nat.le_refl _), M10.out.2.2.2.1.mono hb10 (Nat.le_refl _), M10.out.2.2.2.2.mono hb10 (Nat.le_refl _)⟩
  have MD : Hid (Below w.heap.size w w10.drew ∧ Box w10.drew (w.heap.size) 25 #[.slice pa v.n pc, .slice ja v.m jc] ∧ Box w10.drew (w.heap.size + 1) 42 #[.int .i64 fp, .int .i64 fa, .int .i64 fw, .int .i64 lg, .slice ba nb bk] ∧ Box w10.drew (xb) 32 #[.slice pa2 v.n v.n, .slice ja2 v.m v.m] ∧ Box w10.drew (yb) 48 #[.int .i64 fp, .int .i64 fa, .int .i64 fw, .int .i64 lg, .slice (some ⟨bq, 0, none⟩) nb nb]) := ⟨M11.out.1.drew, M11.out.2.1.drew, M11.out.2.2.1.drew, M11.out.2.2.2.1.drew, M11.out.2.2.2.2.drew⟩
  have QD0 : Hid (PsAt 0 w10 pa2 v.n v.P ∧ JsAt 0 w10 ja2 v.m v.J ∧ IsAt 0 w10 la2 nl L ∧ NsAt 2 0 w10 (some ⟨bq, 0, none⟩) nb B) := ⟨(Q10.out.1.mono (Nat.le_refl _) hb10 (Nat.le_refl _)), (Q10.out.2.1.mono (Nat.le_refl _) hb10 (Nat.le_refl _)), (Q10.out.2.2.1.mono (Nat.le_refl _) hb10 (Nat.le_refl _)), (Q10.out.2.2.2.mono (Nat.le_refl _) hb10 (Nat.le_refl _))⟩
  have QD : Hid (PsAt 0 w10.drew pa2 v.n v.P ∧ JsAt 0 w10.drew ja2 v.m v.J ∧ IsAt 0 w10.drew la2 nl L ∧ NsAt 2 0 w10.drew (some ⟨bq, 0, none⟩) nb B) := ⟨(QD0.out.1.mono (Nat.le_refl _) (Below.refl w10.heap.size w10).drew (Nat.le_refl _)), (QD0.out.2.1.mono (Nat.le_refl _) (Below.refl w10.heap.size w10).drew (Nat.le_refl _)), (QD0.out.2.2.1.mono (Nat.le_refl _) (Below.refl w10.heap.size w10).drew (Nat.le_refl _)), (QD0.out.2.2.2.mono (Nat.le_refl _) (Below.refl w10.heap.size w10).drew (Nat.le_refl _))⟩
  clear hb10 M10 Q10 QD0
  have zR : (R != R) = false := by simp
  have a0 : w10.cell? ⟨w.heap.size, 0, none⟩ = some (.slice pa v.n pc) := M11.out.2.1.cell 0
  have a1 : w10.cell? ⟨w.heap.size, 1, none⟩ = some (.slice ja v.m jc) := M11.out.2.1.cell 1
  have b0 : w10.cell? ⟨w.heap.size + 1, 0, none⟩ = some (.int .i64 fp) := M11.out.2.2.1.cell 0
  have b1 : w10.cell? ⟨w.heap.size + 1, 1, none⟩ = some (.int .i64 fa) := M11.out.2.2.1.cell 1
  have b2 : w10.cell? ⟨w.heap.size + 1, 2, none⟩ = some (.int .i64 fw) := M11.out.2.2.1.cell 2
  have b3 : w10.cell? ⟨w.heap.size + 1, 3, none⟩ = some (.int .i64 lg) := M11.out.2.2.1.cell 3
  have b4 : w10.cell? ⟨w.heap.size + 1, 4, none⟩ = some (.slice ba nb bk) := M11.out.2.2.1.cell 4
  have c0 : w10.cell? ⟨xb, 0, none⟩ = some (.slice pa2 v.n v.n) := M11.out.2.2.2.1.cell 0
  have c1 : w10.cell? ⟨xb, 1, none⟩ = some (.slice ja2 v.m v.m) := M11.out.2.2.2.1.cell 1
  have d0 : w10.cell? ⟨yb, 0, none⟩ = some (.int .i64 fp) := M11.out.2.2.2.2.cell 0
  have d1 : w10.cell? ⟨yb, 1, none⟩ = some (.int .i64 fa) := M11.out.2.2.2.2.cell 1
  have d2 : w10.cell? ⟨yb, 2, none⟩ = some (.int .i64 fw) := M11.out.2.2.2.2.cell 2
  have d3 : w10.cell? ⟨yb, 3, none⟩ = some (.int .i64 lg) := M11.out.2.2.2.2.cell 3
  have d4 : w10.cell? ⟨yb, 4, none⟩ = some (.slice (some ⟨bq, 0, none⟩) nb nb) := M11.out.2.2.2.2.cell 4
  go_wp2_with fail
  refine wp_region_held_drew (S := (fun wx : World => wx.cell? ⟨w.heap.size, 0, none⟩ = some (.slice pa v.n pc) ∧ wx.cell? ⟨w.heap.size, 1, none⟩ = some (.slice ja v.m jc) ∧ wx.cell? ⟨w.heap.size + 1, 0, none⟩ = some (.int .i64 fp) ∧ wx.cell? ⟨w.heap.size + 1, 1, none⟩ = some (.int .i64 fa) ∧ wx.cell? ⟨w.heap.size + 1, 2, none⟩ = some (.int .i64 fw) ∧ wx.cell? ⟨w.heap.size + 1, 3, none⟩ = some (.int .i64 lg) ∧ wx.cell? ⟨w.heap.size + 1, 4, none⟩ = some (.slice ba nb bk) ∧ wx.cell? ⟨xb, 0, none⟩ = some (.slice pa2 v.n v.n) ∧ wx.cell? ⟨xb, 1, none⟩ = some (.slice ja2 v.m v.m) ∧ wx.cell? ⟨yb, 0, none⟩ = some (.int .i64 fp) ∧ wx.cell? ⟨yb, 1, none⟩ = some (.int .i64 fa) ∧ wx.cell? ⟨yb, 2, none⟩ = some (.int .i64 fw) ∧ wx.cell? ⟨yb, 3, none⟩ = some (.int .i64 lg) ∧ wx.cell? ⟨yb, 4, none⟩ = some (.slice (some ⟨bq, 0, none⟩) nb nb))) (by kernel_rfl) ?_ (fun hHeld => ?_)
  · exact ⟨a0, a1, b0, b1, b2, b3, b4, c0, c1, d0, d1, d2, d3, d4⟩
  refine tk 0 ?_
  refine tk 1 ?_
  refine rl 2 fun K hK => ?_
  go_simp
  refine (toNetR pa pc ja jc _ hn1 hm1 (H.out.1.mono (Nat.le_refl _) MD.out.1 (Nat.le_refl _)) (H.out.2.1.mono (Nat.le_refl _) MD.out.1 (Nat.le_refl _)) HNE.out).mono ?_
  rintro e wa ⟨pa3, ja3, rfl, hPa, hJa, hba⟩
  have Ma : Hid (Below w.heap.size w wa ∧ Box wa (w.heap.size) 25 #[.slice pa v.n pc, .slice ja v.m jc] ∧ Box wa (w.heap.size + 1) 42 #[.int .i64 fp, .int .i64 fa, .int .i64 fw, .int .i64 lg, .slice ba nb bk] ∧ Box wa (xb) 32 #[.slice pa2 v.n v.n, .slice ja2 v.m v.m] ∧ Box wa (yb) 48 #[.int .i64 fp, .int .i64 fa, .int .i64 fw, .int .i64 lg, .slice (some ⟨bq, 0, none⟩) nb nb]) := ⟨MD.out.1.trans (hba.mono MD.out.1.size), MD.out.2.1.mono hba (Nat.le_refl _), MD.out.2.2.1.mono hba (Nat.le_refl _), MD.out.2.2.2.1.mono hba (Nat.le_refl _), MD.out.2.2.2.2.mono hba (Nat.le_refl _)⟩
  have Qa : Hid ((PsAt 0 wa pa3 v.n v.P ∧ JsAt 0 wa ja3 v.m v.J) ∧ PsAt 0 wa pa2 v.n v.P ∧ JsAt 0 wa ja2 v.m v.J ∧ IsAt 0 wa la2 nl L ∧ NsAt 2 0 wa (some ⟨bq, 0, none⟩) nb B) := ⟨⟨hPa, hJa⟩, (QD.out.1.mono (Nat.le_refl _) hba (Nat.le_refl _)), (QD.out.2.1.mono (Nat.le_refl _) hba (Nat.le_refl _)), (QD.out.2.2.1.mono (Nat.le_refl _) hba (Nat.le_refl _)), (QD.out.2.2.2.mono (Nat.le_refl _) hba (Nat.le_refl _))⟩
  clear hba hPa hJa
  go_wp2_with fail
  refine hK.out _ _ ?_ (fun hHeld2 => ?_)
  · exact ⟨Ma.out.2.1.cell 0, Ma.out.2.1.cell 1, Ma.out.2.2.1.cell 0, Ma.out.2.2.1.cell 1, Ma.out.2.2.1.cell 2, Ma.out.2.2.1.cell 3, Ma.out.2.2.1.cell 4, Ma.out.2.2.2.1.cell 0, Ma.out.2.2.2.1.cell 1, Ma.out.2.2.2.2.cell 0, Ma.out.2.2.2.2.cell 1, Ma.out.2.2.2.2.cell 2, Ma.out.2.2.2.2.cell 3, Ma.out.2.2.2.2.cell 4⟩
  clear hK K
  refine rl 3 fun K hK => ?_
  go_simp
  refine (eqNet10 pa2 pa3 v.n v.n v.n v.P ja2 ja3 v.m v.m v.m v.J wa hn1 hm1 Qa.out.2.1 Qa.out.1.1 Qa.out.2.2.1 Qa.out.1.2 HNE.out).mono ?_
  rintro e wb ⟨rfl, hbb⟩
  have Mb : Hid (Below w.heap.size w wb ∧ Box wb (w.heap.size) 25 #[.slice pa v.n pc, .slice ja v.m jc] ∧ Box wb (w.heap.size + 1) 42 #[.int .i64 fp, .int .i64 fa, .int .i64 fw, .int .i64 lg, .slice ba nb bk] ∧ Box wb (xb) 32 #[.slice pa2 v.n v.n, .slice ja2 v.m v.m] ∧ Box wb (yb) 48 #[.int .i64 fp, .int .i64 fa, .int .i64 fw, .int .i64 lg, .slice (some ⟨bq, 0, none⟩) nb nb]) := ⟨Ma.out.1.trans (hbb.mono Ma.out.1.size), Ma.out.2.1.mono hbb (Nat.le_refl _), Ma.out.2.2.1.mono hbb (Nat.le_refl _), Ma.out.2.2.2.1.mono hbb (Nat.le_refl _), Ma.out.2.2.2.2.mono hbb (Nat.le_refl _)⟩
  have Qb : Hid (IsAt 0 wb la2 nl L ∧ NsAt 2 0 wb (some ⟨bq, 0, none⟩) nb B) := ⟨(Qa.out.2.2.2.1.mono (Nat.le_refl _) hbb (Nat.le_refl _)), (Qa.out.2.2.2.2.mono (Nat.le_refl _) hbb (Nat.le_refl _))⟩
  clear hbb
  go_wp2_with fail
  refine hK.out _ _ ?_ (fun hHeld3 => ?_)
  · exact ⟨Mb.out.2.1.cell 0, Mb.out.2.1.cell 1, Mb.out.2.2.1.cell 0, Mb.out.2.2.1.cell 1, Mb.out.2.2.1.cell 2, Mb.out.2.2.1.cell 3, Mb.out.2.2.1.cell 4, Mb.out.2.2.2.1.cell 0, Mb.out.2.2.2.1.cell 1, Mb.out.2.2.2.2.cell 0, Mb.out.2.2.2.2.cell 1, Mb.out.2.2.2.2.cell 2, Mb.out.2.2.2.2.cell 3, Mb.out.2.2.2.2.cell 4⟩
  clear hK K
  refine tk 4 ?_
  refine wpAnyH_done (by kernel_rfl) ?_ _
  clear a0 a1 b0 b1 b2 b3 b4 c0 c1 d0 d1 d2 d3 d4 MD QD Ma Qa M11
  go_wp2_with fail
  refine (toIntS10 la nl lc L wb hl1 (H.out.2.2.2.2.2.mono (Nat.le_refl _) Mb.out.1 (Nat.le_refl _))).mono ?_
  rintro e wf ⟨la3, rfl, hLf, hbf⟩
  have Mf : Hid (Below w.heap.size w wf ∧ Box wf (w.heap.size) 25 #[.slice pa v.n pc, .slice ja v.m jc] ∧ Box wf (w.heap.size + 1) 42 #[.int .i64 fp, .int .i64 fa, .int .i64 fw, .int .i64 lg, .slice ba nb bk] ∧ Box wf (xb) 32 #[.slice pa2 v.n v.n, .slice ja2 v.m v.m] ∧ Box wf (yb) 48 #[.int .i64 fp, .int .i64 fa, .int .i64 fw, .int .i64 lg, .slice (some ⟨bq, 0, none⟩) nb nb]) := ⟨Mb.out.1.trans (hbf.mono Mb.out.1.size), Mb.out.2.1.mono hbf (Nat.le_refl _), Mb.out.2.2.1.mono hbf (Nat.le_refl _), Mb.out.2.2.2.1.mono hbf (Nat.le_refl _), Mb.out.2.2.2.2.mono hbf (Nat.le_refl _)⟩
  have Qf : Hid (IsAt 0 wf la2 nl L ∧ NsAt 2 0 wf (some ⟨bq, 0, none⟩) nb B) := ⟨(Qb.out.1.mono (Nat.le_refl _) hbf (Nat.le_refl _)), (Qb.out.2.mono (Nat.le_refl _) hbf (Nat.le_refl _))⟩
  have Lf : Hid (IsAt 0 wf la3 nl L) := (hLf.keep (Nat.zero_le _) (Nat.le_refl _) fun _ _ _ => rfl)
  clear hbf hLf Mb Qb
  go_wp2_with fail
  refine (eqIntS13 la2 la3 nl nl nl L wf hl1 Qf.out.1 Lf.out).mono ?_
  rintro e wg ⟨rfl, hbg⟩
  have Mg : Hid (Below w.heap.size w wg ∧ Box wg (w.heap.size) 25 #[.slice pa v.n pc, .slice ja v.m jc] ∧ Box wg (w.heap.size + 1) 42 #[.int .i64 fp, .int .i64 fa, .int .i64 fw, .int .i64 lg, .slice ba nb bk] ∧ Box wg (xb) 32 #[.slice pa2 v.n v.n, .slice ja2 v.m v.m] ∧ Box wg (yb) 48 #[.int .i64 fp, .int .i64 fa, .int .i64 fw, .int .i64 lg, .slice (some ⟨bq, 0, none⟩) nb nb]) := ⟨Mf.out.1.trans (hbg.mono Mf.out.1.size), Mf.out.2.1.mono hbg (Nat.le_refl _), Mf.out.2.2.1.mono hbg (Nat.le_refl _), Mf.out.2.2.2.1.mono hbg (Nat.le_refl _), Mf.out.2.2.2.2.mono hbg (Nat.le_refl _)⟩
  have ME : Hid (Below w.heap.size w wg.drew ∧ Box wg.drew (w.heap.size) 25 #[.slice pa v.n pc, .slice ja v.m jc] ∧ Box wg.drew (w.heap.size + 1) 42 #[.int .i64 fp, .int .i64 fa, .int .i64 fw, .int .i64 lg, .slice ba nb bk] ∧ Box wg.drew (xb) 32 #[.slice pa2 v.n v.n, .slice ja2 v.m v.m] ∧ Box wg.drew (yb) 48 #[.int .i64 fp, .int .i64 fa, .int .i64 fw, .int .i64 lg, .slice (some ⟨bq, 0, none⟩) nb nb]) := ⟨Mg.out.1.drew, Mg.out.2.1.drew, Mg.out.2.2.1.drew, Mg.out.2.2.2.1.drew, Mg.out.2.2.2.2.drew⟩
  have QE : Hid (NsAt 2 0 wg.drew (some ⟨bq, 0, none⟩) nb B) := (Qf.out.2.mono (Nat.le_refl _) hbg (Nat.le_refl _)).mono (Nat.le_refl _) (Below.refl wg.heap.size wg).drew (Nat.le_refl _)
  clear hbg Mf Qf Lf
  have a0 : wg.cell? ⟨w.heap.size, 0, none⟩ = some (.slice pa v.n pc) := Mg.out.2.1.cell 0
  have a1 : wg.cell? ⟨w.heap.size, 1, none⟩ = some (.slice ja v.m jc) := Mg.out.2.1.cell 1
  have b0 : wg.cell? ⟨w.heap.size + 1, 0, none⟩ = some (.int .i64 fp) := Mg.out.2.2.1.cell 0
  have b1 : wg.cell? ⟨w.heap.size + 1, 1, none⟩ = some (.int .i64 fa) := Mg.out.2.2.1.cell 1
  have b2 : wg.cell? ⟨w.heap.size + 1, 2, none⟩ = some (.int .i64 fw) := Mg.out.2.2.1.cell 2
  have b3 : wg.cell? ⟨w.heap.size + 1, 3, none⟩ = some (.int .i64 lg) := Mg.out.2.2.1.cell 3
  have b4 : wg.cell? ⟨w.heap.size + 1, 4, none⟩ = some (.slice ba nb bk) := Mg.out.2.2.1.cell 4
  have c0 : wg.cell? ⟨xb, 0, none⟩ = some (.slice pa2 v.n v.n) := Mg.out.2.2.2.1.cell 0
  have c1 : wg.cell? ⟨xb, 1, none⟩ = some (.slice ja2 v.m v.m) := Mg.out.2.2.2.1.cell 1
  have d0 : wg.cell? ⟨yb, 0, none⟩ = some (.int .i64 fp) := Mg.out.2.2.2.2.cell 0
  have d1 : wg.cell? ⟨yb, 1, none⟩ = some (.int .i64 fa) := Mg.out.2.2.2.2.cell 1
  have d2 : wg.cell? ⟨yb, 2, none⟩ = some (.int .i64 fw) := Mg.out.2.2.2.2.cell 2
  have d3 : wg.cell? ⟨yb, 3, none⟩ = some (.int .i64 lg) := Mg.out.2.2.2.2.cell 3
  have d4 : wg.cell? ⟨yb, 4, none⟩ = some (.slice (some ⟨bq, 0, none⟩) nb nb) := Mg.out.2.2.2.2.cell 4
  go_wp2_with fail
  refine wp_region_held_drew (S := (fun wx : World => wx.cell? ⟨w.heap.size, 0, none⟩ = some (.slice pa v.n pc) ∧ wx.cell? ⟨w.heap.size, 1, none⟩ = some (.slice ja v.m jc) ∧ wx.cell? ⟨w.heap.size + 1, 0, none⟩ = some (.int .i64 fp) ∧ wx.cell? ⟨w.heap.size + 1, 1, none⟩ = some (.int .i64 fa) ∧ wx.cell? ⟨w.heap.size + 1, 2, none⟩ = some (.int .i64 fw) ∧ wx.cell? ⟨w.heap.size + 1, 3, none⟩ = some (.int .i64 lg) ∧ wx.cell? ⟨w.heap.size + 1, 4, none⟩ = some (.slice ba nb bk) ∧ wx.cell? ⟨xb, 0, none⟩ = some (.slice pa2 v.n v.n) ∧ wx.cell? ⟨xb, 1, none⟩ = some (.slice ja2 v.m v.m) ∧ wx.cell? ⟨yb, 0, none⟩ = some (.int .i64 fp) ∧ wx.cell? ⟨yb, 1, none⟩ = some (.int .i64 fa) ∧ wx.cell? ⟨yb, 2, none⟩ = some (.int .i64 fw) ∧ wx.cell? ⟨yb, 3, none⟩ = some (.int .i64 lg) ∧ wx.cell? ⟨yb, 4, none⟩ = some (.slice (some ⟨bq, 0, none⟩) nb nb))) (by kernel_rfl) ?_ (fun hHeld => ?_)
  · exact ⟨a0, a1, b0, b1, b2, b3, b4, c0, c1, d0, d1, d2, d3, d4⟩
  refine tk 0 ?_
  refine tk 1 ?_
  refine rl 2 fun K hK => ?_
  go_simp
  refine (toTrain16 fp fa fw lg nb B ba bk _ hnb1 (H.out.2.2.1.mono (Nat.le_refl _) ME.out.1 (Nat.le_refl _))).mono ?_
  rintro e wc1 ⟨bz, rfl, hBc, hbc⟩
  have Mc : Hid (Below w.heap.size w wc1 ∧ Box wc1 (w.heap.size) 25 #[.slice pa v.n pc, .slice ja v.m jc] ∧ Box wc1 (w.heap.size + 1) 42 #[.int .i64 fp, .int .i64 fa, .int .i64 fw, .int .i64 lg, .slice ba nb bk] ∧ Box wc1 (xb) 32 #[.slice pa2 v.n v.n, .slice ja2 v.m v.m] ∧ Box wc1 (yb) 48 #[.int .i64 fp, .int .i64 fa, .int .i64 fw, .int .i64 lg, .slice (some ⟨bq, 0, none⟩) nb nb]) := ⟨ME.out.1.trans (hbc.mono ME.out.1.size), ME.out.2.1.mono hbc (Nat.le_refl _), ME.out.2.2.1.mono hbc (Nat.le_refl _), ME.out.2.2.2.1.mono hbc (Nat.le_refl _), ME.out.2.2.2.2.mono hbc (Nat.le_refl _)⟩
  have Qc : Hid (NsAt 2 0 wc1 (some ⟨bq, 0, none⟩) nb B ∧ NsAt 2 0 wc1 (some ⟨bz, 0, none⟩) nb B) := ⟨(QE.out.mono (Nat.le_refl _) hbc (Nat.le_refl _)), (hBc.keep (Nat.zero_le _) (Nat.le_refl _) fun _ _ _ => rfl)⟩
  clear hbc hBc
  go_wp2_with fail
  refine hK.out _ _ ?_ (fun hHeld2 => ?_)
  · exact ⟨Mc.out.2.1.cell 0, Mc.out.2.1.cell 1, Mc.out.2.2.1.cell 0, Mc.out.2.2.1.cell 1, Mc.out.2.2.1.cell 2, Mc.out.2.2.1.cell 3, Mc.out.2.2.1.cell 4, Mc.out.2.2.2.1.cell 0, Mc.out.2.2.2.1.cell 1, Mc.out.2.2.2.2.cell 0, Mc.out.2.2.2.2.cell 1, Mc.out.2.2.2.2.cell 2, Mc.out.2.2.2.2.cell 3, Mc.out.2.2.2.2.cell 4⟩
  clear hK K
  refine rl 3 fun K hK => ?_
  go_simp
  refine (eqTrain18 fp fa fw lg nb B (some ⟨bq, 0, none⟩) (some ⟨bz, 0, none⟩) nb nb wc1 hnb1 Qc.out.1 Qc.out.2).mono ?_
  rintro e wd ⟨rfl, hbd⟩
  have Md : Hid (Below w.heap.size w wd ∧ Box wd (w.heap.size) 25 #[.slice pa v.n pc, .slice ja v.m jc] ∧ Box wd (w.heap.size + 1) 42 #[.int .i64 fp, .int .i64 fa, .int .i64 fw, .int .i64 lg, .slice ba nb bk] ∧ Box wd (xb) 32 #[.slice pa2 v.n v.n, .slice ja2 v.m v.m] ∧ Box wd (yb) 48 #[.int .i64 fp, .int .i64 fa, .int .i64 fw, .int .i64 lg, .slice (some ⟨bq, 0, none⟩) nb nb]) := ⟨Mc.out.1.trans (hbd.mono Mc.out.1.size), Mc.out.2.1.mono hbd (Nat.le_refl _), Mc.out.2.2.1.mono hbd (Nat.le_refl _), Mc.out.2.2.2.1.mono hbd (Nat.le_refl _), Mc.out.2.2.2.2.mono hbd (Nat.le_refl _)⟩
  clear hbd
  go_wp2_with fail
  refine hK.out _ _ ?_ (fun hHeld3 => ?_)
  · exact ⟨Md.out.2.1.cell 0, Md.out.2.1.cell 1, Md.out.2.2.1.cell 0, Md.out.2.2.1.cell 1, Md.out.2.2.1.cell 2, Md.out.2.2.1.cell 3, Md.out.2.2.1.cell 4, Md.out.2.2.2.1.cell 0, Md.out.2.2.2.1.cell 1, Md.out.2.2.2.2.cell 0, Md.out.2.2.2.2.cell 1, Md.out.2.2.2.2.cell 2, Md.out.2.2.2.2.cell 3, Md.out.2.2.2.2.cell 4⟩
  clear hK K
  refine tk 4 ?_
  refine wpAnyH_done (by kernel_rfl) ?_ _
  have HE : Hid (Below w.heap.size w wd) := Md.out.1
  go_wp2_with fail
  go_ret
  exact ⟨rfl, HE.out⟩

end Go.Proofs.Ytoennemahlakeaa
