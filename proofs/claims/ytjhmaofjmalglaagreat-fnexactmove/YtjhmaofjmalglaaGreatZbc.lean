import Derived.Test.YtjhmaofjmalglaaGreatZbb
namespace Go.Proofs.YtjhmaofjmalglaaGreat
open Go.RowKit Go.Lib
theorem next_sd {v : Nv} (ok : v.Ok) {L : Nat → Int} {p : Nat} {wa : Int} (hp : p < v.n) (hl : ∀ i, i < v.m → lieB v.J L i = true) (h0 : (exitAt v L p wa).2 = 0) : (nextAt v L p wa).sd = 0 ∨ (nextAt v L p wa).sd = 1 := by
 obtain ⟨g0, g1, g2⟩ : 0 ≤ (headE p wa).pc ∧ (headE p wa).pc < v.n ∧ ((headE p wa).sd = 0 ∨ (headE p wa).sd = 1) := by
  refine ⟨by show (0 : Int) ≤ (p : Int); omega, by show (p : Int) < (v.n : Int); omega, ?_⟩
  show (if wa = 1 then (1 : Int) else 0) = 0 ∨ (if wa = 1 then (1 : Int) else 0) = 1
  split
  ·
   exact Or.inr rfl
  ·
   exact Or.inl rfl
 obtain ⟨j, k, hat, hja, hjm, hkn, hEk, hk1, hk2, hk3⟩ := ok.there g0 g1 g2
 rw [exitAt, hat] at h0
 rw [nextAt, exitAt, hat]
 exact (ok.en j hjm _ (exit_lt ok hjm hkn (hl j hjm) h0)).2.2
set_option maxHeartbeats 4000000 in
theorem leads49 {v : Nv} (ok : v.Ok) {bt sb : Nat} {pa : Option Addr} {pc : Nat} {ja : Option Addr} {jc : Nat} (p : Nat) (wa : Int) (q : Nat) (wb : Int) (la : Option Addr) (lc : Nat) (L : Nat → Int) (w : World) (h : TkAt w bt sb v pa pc ja jc) (hp : p < v.n) (hwa : wa = 1 ∨ wa = -1) (hwb : wb = 1 ∨ wb = -1) (hL : IsAt 0 w la v.m L) (hl : ∀ i, i < v.m → lieB v.J L i = true) :
  Calls Tryz.prog 112 #[.agg #[.pointer (some ⟨bt, 0, none⟩), .slice la v.m lc], .agg #[.int .i64 (p : Int), .int .i64 wa], .agg #[.int .i64 (q : Int), .int .i64 wb]] w fun e w' => e = .returned (.bool (railB v L p wa q wb)) ∧ Below w.heap.size w w' := by
 have H : Hid (v.Ok ∧ TkAt w bt sb v pa pc ja jc ∧ IsAt 0 w la v.m L ∧ (∀ i, i < v.m → lieB v.J L i = true)) := ⟨ok, h, hL, hl⟩
 obtain ⟨y, HY⟩ : ∃ y, Hid ((exitAt v L p wa).2 = y) := ⟨_, rfl⟩
 obtain ⟨R, HR⟩ : ∃ R, Hid (railB v L p wa q wb = R) := ⟨_, rfl⟩
 have HV : Hid (y = 0 → R = (decide ((nextAt v L p wa).pc = (q : Int)) && decide (wayOf (nextAt v L p wa) = wb))) := fun hy => by
  rw [← HR.out, railB, HY.out, decide_eq_true hy, Bool.true_and]
  exact away_eq (next_sd ok hp hl (by rw [HY.out]; exact hy)) hwb
 have HN : Hid (y ≠ 0 → R = false) := fun hy => by rw [← HR.out, railB, HY.out, decide_eq_false hy, Bool.false_and]
 rw [HR.out]
 have S0 : Hid (Below w.heap.size w (((w.alloc (.cells #[.pointer (some ⟨bt, 0, none⟩), .slice la v.m lc] 87)).alloc (.cells #[.int .i64 (p : Int), .int .i64 wa] 74)).alloc (.cells #[.int .i64 (q : Int), .int .i64 wb] 74)) ∧ Box (((w.alloc (.cells #[.pointer (some ⟨bt, 0, none⟩), .slice la v.m lc] 87)).alloc (.cells #[.int .i64 (p : Int), .int .i64 wa] 74)).alloc (.cells #[.int .i64 (q : Int), .int .i64 wb] 74)) (w.heap.size) 87 #[.pointer (some ⟨bt, 0, none⟩), .slice la v.m lc] ∧ Box (((w.alloc (.cells #[.pointer (some ⟨bt, 0, none⟩), .slice la v.m lc] 87)).alloc (.cells #[.int .i64 (p : Int), .int .i64 wa] 74)).alloc (.cells #[.int .i64 (q : Int), .int .i64 wb] 74)) (w.heap.size + 1) 74 #[.int .i64 (p : Int), .int .i64 wa] ∧ Box (((w.alloc (.cells #[.pointer (some ⟨bt, 0, none⟩), .slice la v.m lc] 87)).alloc (.cells #[.int .i64 (p : Int), .int .i64 wa] 74)).alloc (.cells #[.int .i64 (q : Int), .int .i64 wb] 74)) (w.heap.size + 1 + 1) 74 #[.int .i64 (q : Int), .int .i64 wb]) := ⟨bel3 _ _ _ _, ((Box.new _ _ _).alloc _).alloc _, by have := (Box.new (w.alloc (.cells #[.pointer (some ⟨bt, 0, none⟩), .slice la v.m lc] 87)) 74 #[.int .i64 (p : Int), .int .i64 wa]).alloc (.cells #[.int .i64 (q : Int), .int .i64 wb] 74); simpa using this, by have := Box.new ((w.alloc (.cells #[.pointer (some ⟨bt, 0, none⟩), .slice la v.m lc] 87)).alloc (.cells #[.int .i64 (p : Int), .int .i64 wa] 74)) 74 #[.int .i64 (q : Int), .int .i64 wb]; simpa using this⟩
 clear ok h hL hl
 go_enter Tryz.func112, Tryz.ntmps112
 go_upto_region 1 with fail
 generalize (((w.alloc (.cells #[.pointer (some ⟨bt, 0, none⟩), .slice la v.m lc] 87)).alloc (.cells #[.int .i64 (p : Int), .int .i64 wa] 74)).alloc (.cells #[.int .i64 (q : Int), .int .i64 wb] 74)) = V0 at S0 ⊢
 have a0 : V0.cell? ⟨w.heap.size, 0, none⟩ = some (.pointer (some ⟨bt, 0, none⟩)) := S0.out.2.1.cell 0
 have a1 : V0.cell? ⟨w.heap.size, 1, none⟩ = some (.slice la v.m lc) := S0.out.2.1.cell 1
 have b0 : V0.cell? ⟨w.heap.size + 1, 0, none⟩ = some (.int .i64 (p : Int)) := S0.out.2.2.1.cell 0
 have b1 : V0.cell? ⟨w.heap.size + 1, 1, none⟩ = some (.int .i64 wa) := S0.out.2.2.1.cell 1
 have c0 : V0.cell? ⟨w.heap.size + 1 + 1, 0, none⟩ = some (.int .i64 (q : Int)) := S0.out.2.2.2.cell 0
 have c1 : V0.cell? ⟨w.heap.size + 1 + 1, 1, none⟩ = some (.int .i64 wb) := S0.out.2.2.2.cell 1
 go_wp2_with fail
 clear a0 a1 b0 b1 c0 c1
 refine (over80 H.out.1 p wa la lc L V0 (H.out.2.1.mono S0.out.1 (Nat.le_refl _)) hp hwa (H.out.2.2.1.mono (Nat.le_refl _) S0.out.1 (Nat.le_refl _)) H.out.2.2.2).mono ?_
 rintro e w1 ⟨ra, rb, he, hab, hb1⟩
 rw [HY.out] at he hab
 subst he
 have M1 : Hid (Below w.heap.size w w1 ∧ Box w1 (w.heap.size) 87 #[.pointer (some ⟨bt, 0, none⟩), .slice la v.m lc] ∧ Box w1 (w.heap.size + 1) 74 #[.int .i64 (p : Int), .int .i64 wa] ∧ Box w1 (w.heap.size + 1 + 1) 74 #[.int .i64 (q : Int), .int .i64 wb]) := ⟨S0.out.1.trans (hb1.mono S0.out.1.size), S0.out.2.1.mono hb1 (Nat.le_refl _), S0.out.2.2.1.mono hb1 (Nat.le_refl _), S0.out.2.2.2.mono hb1 (Nat.le_refl _)⟩
 have HAB : Hid (y = 0 → ra = (nextAt v L p wa).pc ∧ rb = wayOf (nextAt v L p wa)) := hab
 clear hb1 S0 hab
 have M2 : Hid ((Below w.heap.size w (w1.alloc (.cells #[.int .i64 ra, .int .i64 rb] 74)) ∧ Box (w1.alloc (.cells #[.int .i64 ra, .int .i64 rb] 74)) (w.heap.size) 87 #[.pointer (some ⟨bt, 0, none⟩), .slice la v.m lc] ∧ Box (w1.alloc (.cells #[.int .i64 ra, .int .i64 rb] 74)) (w.heap.size + 1) 74 #[.int .i64 (p : Int), .int .i64 wa] ∧ Box (w1.alloc (.cells #[.int .i64 ra, .int .i64 rb] 74)) (w.heap.size + 1 + 1) 74 #[.int .i64 (q : Int), .int .i64 wb]) ∧ Box (w1.alloc (.cells #[.int .i64 ra, .int .i64 rb] 74)) w1.heap.size 74 #[.int .i64 ra, .int .i64 rb]) := ⟨⟨M1.out.1.alloc M1.out.1.size _, M1.out.2.1.alloc _, M1.out.2.2.1.alloc _, M1.out.2.2.2.alloc _⟩, Box.new _ _ _⟩
 clear M1
 go_upto_region 2 with fail
 generalize w1.alloc (.cells #[.int .i64 ra, .int .i64 rb] 74) = V1 at M2 ⊢
 generalize w1.heap.size = nq at M2 ⊢
 have t0 : V1.cell? ⟨w.heap.size + 1 + 1, 0, none⟩ = some (.int .i64 (q : Int)) := M2.out.1.2.2.2.cell 0
 have t1 : V1.cell? ⟨w.heap.size + 1 + 1, 1, none⟩ = some (.int .i64 wb) := M2.out.1.2.2.2.cell 1
 have x0 : V1.cell? ⟨nq, 0, none⟩ = some (.int .i64 ra) := M2.out.2.cell 0
 have x1 : V1.cell? ⟨nq, 1, none⟩ = some (.int .i64 rb) := M2.out.2.cell 1
 by_cases hy : y = 0
 ·
  have HRV : Hid (R = (decide (ra = (q : Int)) && decide (rb = wb))) := by
   have h1 := HAB.out hy
   show _ = _
   rw [HV.out hy, ← h1.1, ← h1.2]
  clear HV HN HAB HY
  subst hy
  by_cases h1 : ra = (q : Int)
  ·
   by_cases h2 : rb = wb
   ·
    have HT : Hid (R = true) := HRV.out.trans (by rw [decide_eq_true h1, decide_eq_true h2]; rfl)
    subst h1
    subst h2
    go_wp2_with fail
    go_ret
    exact ⟨by rw [HT.out]; rfl, M2.out.1.1⟩
   ·
    have HT : Hid (R = false) := HRV.out.trans (by rw [decide_eq_false h2, Bool.and_false])
    have h2' : (rb == wb) = false := by simpa using h2
    subst h1
    go_wp2_with fail
    go_ret
    exact ⟨by rw [HT.out]; rfl, M2.out.1.1⟩
  ·
   have HT : Hid (R = false) := HRV.out.trans (by rw [decide_eq_false h1, Bool.false_and])
   have h1' : (ra == (q : Int)) = false := by simpa using h1
   go_wp2_with fail
   go_ret
   exact ⟨by rw [HT.out]; rfl, M2.out.1.1⟩
 ·
  have HT : Hid (R = false) := HN.out hy
  have hy' : (y == 0) = false := by simpa using hy
  go_wp2_with fail
  go_ret
  exact ⟨by rw [HT.out]; rfl, M2.out.1.1⟩
def railedB (v : Nv) (L : Nat → Int) (fp fw : Int) (nb : Nat) (B : Nat → Nat → Int) : Bool := allT (fun i => railB v L (B i 0).toNat (B i 1) (ahP fp B i).toNat (ahW fw B i)) nb
set_option maxRecDepth 100000 in
set_option maxHeartbeats 16000000 in
theorem joinedR47 {v : Nv} (ok : v.Ok) {bt sb : Nat} {pa : Option Addr} {pc : Nat} {ja : Option Addr} {jc : Nat} (fp fa fw lg : Int) (nb : Nat) (B : Nat → Nat → Int) (ba : Option Addr) (bk : Nat) (la : Option Addr) (lc : Nat) (L : Nat → Int) (w : World) (h : TkAt w bt sb v pa pc ja jc) (hsp : spotB v fp fa fw = true) (hnb : nb ≤ 200) (hB : NsAt 2 0 w ba nb B) (hst : ∀ i, i < nb → stepB v (B i 0) (B i 1) = true) (hL : IsAt 0 w la v.m L) (hl : ∀ i, i < v.m → lieB v.J L i = true) :
  Calls Tryz.prog 111 #[.agg #[.int .i64 fp, .int .i64 fa, .int .i64 fw, .int .i64 lg, .slice ba nb bk], .func (.func 112) #[.agg #[.pointer (some ⟨bt, 0, none⟩), .slice la v.m lc]] #[]] w fun e w' => e = .returned (.bool (railedB v L fp fw nb B)) ∧ Below w.heap.size w w' := by
 have H : Hid (v.Ok ∧ TkAt w bt sb v pa pc ja jc ∧ NsAt 2 0 w ba nb B ∧ (∀ i, i < nb → stepB v (B i 0) (B i 1) = true) ∧ spotB v fp fa fw = true) := ⟨ok, h, hB, hst, hsp⟩
 obtain ⟨fq, rfl, hfq, hfw, hfa⟩ : ∃ q : Nat, fp = (q : Int) ∧ q < v.n ∧ (fw = 1 ∨ fw = -1) ∧ (0 ≤ fa ∧ fa ≤ (v.P q).ln) := spot_nat hsp
 have S0 : Hid (Below w.heap.size w (w.alloc (.cells #[.int .i64 (fq : Int), .int .i64 fa, .int .i64 fw, .int .i64 lg, .slice ba nb bk] 90)) ∧ Box (w.alloc (.cells #[.int .i64 (fq : Int), .int .i64 fa, .int .i64 fw, .int .i64 lg, .slice ba nb bk] 90)) w.heap.size 90 #[.int .i64 (fq : Int), .int .i64 fa, .int .i64 fw, .int .i64 lg, .slice ba nb bk]) := ⟨bel1 _ _, Box.new _ _ _⟩
 have HL : Hid (IsAt 0 w la v.m L ∧ (∀ i, i < v.m → lieB v.J L i = true)) := ⟨hL, hl⟩
 clear ok h hB hst hsp hL hl
 obtain ⟨R, HR⟩ : ∃ R, Hid (railedB v L (fq : Int) fw nb B = R) := ⟨_, rfl⟩
 rw [HR.out]
 go_enter Tryz.func111, Tryz.ntmps111
 go_upto_region 1 with fail
 generalize (w.alloc (.cells #[.int .i64 (fq : Int), .int .i64 fa, .int .i64 fw, .int .i64 lg, .slice ba nb bk] 90)) = V0 at S0 ⊢
 have t0 : V0.cell? ⟨w.heap.size, 0, none⟩ = some (.int .i64 (fq : Int)) := S0.out.2.cell 0
 have t1 : V0.cell? ⟨w.heap.size, 1, none⟩ = some (.int .i64 fa) := S0.out.2.cell 1
 have t2 : V0.cell? ⟨w.heap.size, 2, none⟩ = some (.int .i64 fw) := S0.out.2.cell 2
 have t3 : V0.cell? ⟨w.heap.size, 3, none⟩ = some (.int .i64 lg) := S0.out.2.cell 3
 have t4 : V0.cell? ⟨w.heap.size, 4, none⟩ = some (.slice ba nb bk) := S0.out.2.cell 4
 go_wp2_with fail
 clear t0 t1 t2 t3 t4
 refine (step79 (fq : Int) fa fw V0).mono ?_
 rintro e w3 ⟨rfl, hb3⟩
 have S3 : Hid (Below w.heap.size w w3 ∧ Box w3 w.heap.size 90 #[.int .i64 (fq : Int), .int .i64 fa, .int .i64 fw, .int .i64 lg, .slice ba nb bk]) := ⟨S0.out.1.trans (hb3.mono S0.out.1.size), S0.out.2.mono hb3 (Nat.le_refl _)⟩
 clear hb3 S0
 have T0 : Hid ((Below w.heap.size w (w3.alloc (.cells #[.int .i64 (fq : Int), .int .i64 fw] 74)) ∧ Box (w3.alloc (.cells #[.int .i64 (fq : Int), .int .i64 fw] 74)) w.heap.size 90 #[.int .i64 (fq : Int), .int .i64 fa, .int .i64 fw, .int .i64 lg, .slice ba nb bk]) ∧ Box (w3.alloc (.cells #[.int .i64 (fq : Int), .int .i64 fw] 74)) w3.heap.size 74 #[.int .i64 (ahP (fq : Int) B 0), .int .i64 (ahW fw B 0)]) := ⟨⟨S3.out.1.alloc S3.out.1.size _, S3.out.2.alloc _⟩, Box.new w3 74 #[.int .i64 (fq : Int), .int .i64 fw]⟩
 have t4 : (w3.alloc (.cells #[.int .i64 (fq : Int), .int .i64 fw] 74)).cell? ⟨w.heap.size, 4, none⟩ = some (.slice ba nb bk) := T0.out.1.2.cell 4
 go_wp2_with fail
 clear t4
 generalize w3.alloc (.cells #[.int .i64 (fq : Int), .int .i64 fw] 74) = V4 at T0 ⊢
 have HAQ : Hid (w.heap.size ≤ w3.heap.size) := S3.out.1.size
 generalize w3.heap.size = aq at T0 HAQ ⊢
 go_loopw [14] (fun c wr => ∃ (k : Nat), k ≤ nb ∧ c = .int .i64 k ∧ Hid (∀ q, q < k → railB v L (B q 0).toNat (B q 1) (ahP (fq : Int) B q).toNat (ahW fw B q) = true) ∧ Hid ((Below w.heap.size w wr ∧ Box wr w.heap.size 90 #[.int .i64 (fq : Int), .int .i64 fa, .int .i64 fw, .int .i64 lg, .slice ba nb bk]) ∧ Box wr aq 74 #[.int .i64 (ahP (fq : Int) B k), .int .i64 (ahW fw B k)])) (fun c _ => nb - (intOf c).toNat)
 case atStart => exact ⟨0, Nat.zero_le _, rfl, fun q hq => absurd hq (Nat.not_lt_zero _), T0⟩
 case round =>
  clear T0 S3
  obtain ⟨k, hk, rfl, HK, T⟩ := hrel
  by_cases hlt : k < nb
  ·
   obtain ⟨bb, bo, hbe, _, hbl, hbc⟩ := H.out.2.2.1 (by omega)
   obtain ⟨sp, HSP, hspn, hway⟩ : ∃ q : Nat, Hid (B k 0 = (q : Int)) ∧ q < v.n ∧ (B k 1 = 1 ∨ B k 1 = -1) := step_nat (H.out.2.2.2.1 k hlt)
   obtain ⟨an, HAN, haw⟩ : ∃ q : Nat, Hid (ahP (fq : Int) B k = (q : Int)) ∧ (ahW fw B k = 1 ∨ ahW fw B k = -1) := by
    cases k with
    | zero => exact ⟨fq, (rfl : (fq : Int) = (fq : Int)), hfw⟩
    | succ i =>
     obtain ⟨q, h2, _, h3⟩ := step_nat (H.out.2.2.2.1 i (by omega))
     exact ⟨q, h2, h3⟩
   have hk0 : (0 : Int) ≤ (k : Int) := by omega
   have hkn : (k : Int) < (nb : Int) := by omega
   have d0 : wr.cell? ⟨bb, bo + k * 2, none⟩ = some (.int .i64 (B k 0)) := cell_keep T.out.1.1 hbl (hbc k hlt 0 (by omega))
   have d1 : wr.cell? ⟨bb, bo + k * 2 + 1, none⟩ = some (.int .i64 (B k 1)) := cell_keep T.out.1.1 hbl (hbc k hlt 1 (by omega))
   have hbs : ba = some ⟨bb, bo, none⟩ := hbe
   subst hbs
   have T1 : Hid (((Below w.heap.size w (wr.alloc (.cells #[.int .i64 (B k 0), .int .i64 (B k 1)] 74)) ∧ Box (wr.alloc (.cells #[.int .i64 (B k 0), .int .i64 (B k 1)] 74)) w.heap.size 90 #[.int .i64 (fq : Int), .int .i64 fa, .int .i64 fw, .int .i64 lg, .slice (some ⟨bb, bo, none⟩) nb bk]) ∧ Box (wr.alloc (.cells #[.int .i64 (B k 0), .int .i64 (B k 1)] 74)) aq 74 #[.int .i64 (ahP (fq : Int) B k), .int .i64 (ahW fw B k)]) ∧ Box (wr.alloc (.cells #[.int .i64 (B k 0), .int .i64 (B k 1)] 74)) wr.heap.size 74 #[.int .i64 (B k 0), .int .i64 (B k 1)]) := ⟨⟨⟨T.out.1.1.alloc T.out.1.1.size _, T.out.1.2.alloc _⟩, T.out.2.alloc _⟩, Box.new _ _ _⟩
   clear hbc hbl T
   go_upto_region 5 with fail
   generalize (wr.alloc (.cells #[.int .i64 (B k 0), .int .i64 (B k 1)] 74)) = V5 at T1 ⊢
   generalize wr.heap.size = sq at T1 ⊢
   have s0 : V5.cell? ⟨sq, 0, none⟩ = some (.int .i64 (sp : Int)) := by rw [← HSP.out]; exact T1.out.2.cell 0
   have s1 : V5.cell? ⟨sq, 1, none⟩ = some (.int .i64 (B k 1)) := T1.out.2.cell 1
   have a0 : V5.cell? ⟨aq, 0, none⟩ = some (.int .i64 (an : Int)) := by rw [← HAN.out]; exact T1.out.1.2.cell 0
   have a1 : V5.cell? ⟨aq, 1, none⟩ = some (.int .i64 (ahW fw B k)) := T1.out.1.2.cell 1
   rcases hway with hw1 | hw1
   ·
    rw [hw1] at s1
    have HT7 : Hid (∀ W, Below V5.heap.size V5 W → ((Below w.heap.size w W ∧ Box W w.heap.size 90 #[.int .i64 (fq : Int), .int .i64 fa, .int .i64 fw, .int .i64 lg, .slice (some ⟨bb, bo, none⟩) nb bk]) ∧ Box W aq 74 #[.int .i64 (ahP (fq : Int) B k), .int .i64 (ahW fw B k)]) ∧ Box W sq 74 #[.int .i64 (B k 0), .int .i64 (B k 1)]) := fun W hb => ⟨⟨⟨T1.out.1.1.1.trans (hb.mono T1.out.1.1.1.size), T1.out.1.1.2.mono hb (Nat.le_refl _)⟩, T1.out.1.2.mono hb (Nat.le_refl _)⟩, T1.out.2.mono hb (Nat.le_refl _)⟩
    go_wp2_with fail
    clear s0 s1 a0 a1 d0 d1
    refine (leads49 H.out.1 sp (1 : Int) an (ahW fw B k) la lc L V5 (H.out.2.1.mono T1.out.1.1.1 (Nat.le_refl _)) hspn (by first | exact Or.inl rfl | exact Or.inr rfl) haw (HL.out.1.mono (Nat.le_refl _) T1.out.1.1.1 (Nat.le_refl _)) HL.out.2).mono ?_
    rintro e w7 ⟨he, hb7⟩
    have T7 : Hid (((Below w.heap.size w w7 ∧ Box w7 w.heap.size 90 #[.int .i64 (fq : Int), .int .i64 fa, .int .i64 fw, .int .i64 lg, .slice (some ⟨bb, bo, none⟩) nb bk]) ∧ Box w7 aq 74 #[.int .i64 (ahP (fq : Int) B k), .int .i64 (ahW fw B k)]) ∧ Box w7 sq 74 #[.int .i64 (B k 0), .int .i64 (B k 1)]) := HT7.out w7 hb7
    clear hb7 T1 HT7
    obtain ⟨u4, HU4⟩ : ∃ u, Hid (railB v L sp (1 : Int) an (ahW fw B k) = u) := ⟨_, rfl⟩
    have HBK : Hid (railB v L (B k 0).toNat (B k 1) (ahP (fq : Int) B k).toNat (ahW fw B k) = u4) := by show _ = _; rw [HSP.out, HAN.out, Int.toNat_natCast, Int.toNat_natCast, hw1, HU4.out]
    rw [HU4.out] at he
    subst he
    cases u4 with
    | false =>
     have HT : Hid (R = false) := HR.out.symm.trans (allT_no hlt HBK.out)
     go_wp2_with fail
     go_ret
     exact ⟨by rw [HT.out]; rfl, T7.out.1.1.1⟩
    | true =>
     have HK2 : Hid (∀ q, q < k + 1 → railB v L (B q 0).toNat (B q 1) (ahP (fq : Int) B q).toNat (ahW fw B q) = true) := fun q hq => by
      by_cases c : q = k
      ·
       subst c
       exact HBK.out
      ·
       exact HK.out q (by omega)
     have s0 : w7.cell? ⟨sq, 0, none⟩ = some (.int .i64 (sp : Int)) := by rw [← HSP.out]; exact T7.out.2.cell 0
     have s1 : w7.cell? ⟨sq, 1, none⟩ = some (.int .i64 (1)) := by rw [← hw1]; exact T7.out.2.cell 1
     have a0 : w7.cell? ⟨aq, 0, none⟩ = some (.int .i64 (ahP (fq : Int) B k)) := T7.out.1.2.cell 0
     have a1 : w7.cell? ⟨aq, 1, none⟩ = some (.int .i64 (ahW fw B k)) := T7.out.1.2.cell 1
     have f0 := T7.out.1.2.free 0
     have f1 := T7.out.1.2.free 1
     have e1 : w.heap.size ≠ aq := box_ne T7.out.1.1.2 T7.out.1.2 (by decide)
     have T8 : Hid ((Below w.heap.size w ((w7.setCell ⟨aq, 0, none⟩ (.int .i64 (sp : Int))).setCell ⟨aq, 1, none⟩ (.int .i64 (1))) ∧ Box ((w7.setCell ⟨aq, 0, none⟩ (.int .i64 (sp : Int))).setCell ⟨aq, 1, none⟩ (.int .i64 (1))) w.heap.size 90 #[.int .i64 (fq : Int), .int .i64 fa, .int .i64 fw, .int .i64 lg, .slice (some ⟨bb, bo, none⟩) nb bk]) ∧ Box ((w7.setCell ⟨aq, 0, none⟩ (.int .i64 (sp : Int))).setCell ⟨aq, 1, none⟩ (.int .i64 (1))) aq 74 #[.int .i64 (ahP (fq : Int) B (k + 1)), .int .i64 (ahW fw B (k + 1))]) := by
      refine ⟨⟨(T7.out.1.1.1.setCell HAQ.out _).setCell HAQ.out _, (T7.out.1.1.2.other e1 _).other e1 _⟩, ?_⟩
      have h9 := (T7.out.1.2.set 0 (.int .i64 (sp : Int))).set 1 (.int .i64 (1))
      rw [show ahP (fq : Int) B (k + 1) = (sp : Int) from HSP.out, show ahW fw B (k + 1) = (1 : Int) from hw1]
      exact h9
     clear HAN haw e1
     go_wp2_with fail
     clear s0 s1 a0 a1 f0 f1
     go_roundw
     case rel => exact ⟨k + 1, by omega, by go_num, HK2, T8⟩
     case measure => simp [intOf]; omega
   ·
    rw [hw1] at s1
    have HT7 : Hid (∀ W, Below V5.heap.size V5 W → ((Below w.heap.size w W ∧ Box W w.heap.size 90 #[.int .i64 (fq : Int), .int .i64 fa, .int .i64 fw, .int .i64 lg, .slice (some ⟨bb, bo, none⟩) nb bk]) ∧ Box W aq 74 #[.int .i64 (ahP (fq : Int) B k), .int .i64 (ahW fw B k)]) ∧ Box W sq 74 #[.int .i64 (B k 0), .int .i64 (B k 1)]) := fun W hb => ⟨⟨⟨T1.out.1.1.1.trans (hb.mono T1.out.1.1.1.size), T1.out.1.1.2.mono hb (Nat.le_refl _)⟩, T1.out.1.2.mono hb (Nat.le_refl _)⟩, T1.out.2.mono hb (Nat.le_refl _)⟩
    go_wp2_with fail
    clear s0 s1 a0 a1 d0 d1
    refine (leads49 H.out.1 sp (-1 : Int) an (ahW fw B k) la lc L V5 (H.out.2.1.mono T1.out.1.1.1 (Nat.le_refl _)) hspn (by first | exact Or.inl rfl | exact Or.inr rfl) haw (HL.out.1.mono (Nat.le_refl _) T1.out.1.1.1 (Nat.le_refl _)) HL.out.2).mono ?_
    rintro e w7 ⟨he, hb7⟩
    have T7 : Hid (((Below w.heap.size w w7 ∧ Box w7 w.heap.size 90 #[.int .i64 (fq : Int), .int .i64 fa, .int .i64 fw, .int .i64 lg, .slice (some ⟨bb, bo, none⟩) nb bk]) ∧ Box w7 aq 74 #[.int .i64 (ahP (fq : Int) B k), .int .i64 (ahW fw B k)]) ∧ Box w7 sq 74 #[.int .i64 (B k 0), .int .i64 (B k 1)]) := HT7.out w7 hb7
    clear hb7 T1 HT7
    obtain ⟨u4, HU4⟩ : ∃ u, Hid (railB v L sp (-1 : Int) an (ahW fw B k) = u) := ⟨_, rfl⟩
    have HBK : Hid (railB v L (B k 0).toNat (B k 1) (ahP (fq : Int) B k).toNat (ahW fw B k) = u4) := by show _ = _; rw [HSP.out, HAN.out, Int.toNat_natCast, Int.toNat_natCast, hw1, HU4.out]
    rw [HU4.out] at he
    subst he
    cases u4 with
    | false =>
     have HT : Hid (R = false) := HR.out.symm.trans (allT_no hlt HBK.out)
     go_wp2_with fail
     go_ret
     exact ⟨by rw [HT.out]; rfl, T7.out.1.1.1⟩
    | true =>
     have HK2 : Hid (∀ q, q < k + 1 → railB v L (B q 0).toNat (B q 1) (ahP (fq : Int) B q).toNat (ahW fw B q) = true) := fun q hq => by
      by_cases c : q = k
      ·
       subst c
       exact HBK.out
      ·
       exact HK.out q (by omega)
     have s0 : w7.cell? ⟨sq, 0, none⟩ = some (.int .i64 (sp : Int)) := by rw [← HSP.out]; exact T7.out.2.cell 0
     have s1 : w7.cell? ⟨sq, 1, none⟩ = some (.int .i64 (-1)) := by rw [← hw1]; exact T7.out.2.cell 1
     have a0 : w7.cell? ⟨aq, 0, none⟩ = some (.int .i64 (ahP (fq : Int) B k)) := T7.out.1.2.cell 0
     have a1 : w7.cell? ⟨aq, 1, none⟩ = some (.int .i64 (ahW fw B k)) := T7.out.1.2.cell 1
     have f0 := T7.out.1.2.free 0
     have f1 := T7.out.1.2.free 1
     have e1 : w.heap.size ≠ aq := box_ne T7.out.1.1.2 T7.out.1.2 (by decide)
     have T8 : Hid ((Below w.heap.size w ((w7.setCell ⟨aq, 0, none⟩ (.int .i64 (sp : Int))).setCell ⟨aq, 1, none⟩ (.int .i64 (-1))) ∧ Box ((w7.setCell ⟨aq, 0, none⟩ (.int .i64 (sp : Int))).setCell ⟨aq, 1, none⟩ (.int .i64 (-1))) w.heap.size 90 #[.int .i64 (fq : Int), .int .i64 fa, .int .i64 fw, .int .i64 lg, .slice (some ⟨bb, bo, none⟩) nb bk]) ∧ Box ((w7.setCell ⟨aq, 0, none⟩ (.int .i64 (sp : Int))).setCell ⟨aq, 1, none⟩ (.int .i64 (-1))) aq 74 #[.int .i64 (ahP (fq : Int) B (k + 1)), .int .i64 (ahW fw B (k + 1))]) := by
      refine ⟨⟨(T7.out.1.1.1.setCell HAQ.out _).setCell HAQ.out _, (T7.out.1.1.2.other e1 _).other e1 _⟩, ?_⟩
      have h9 := (T7.out.1.2.set 0 (.int .i64 (sp : Int))).set 1 (.int .i64 (-1))
      rw [show ahP (fq : Int) B (k + 1) = (sp : Int) from HSP.out, show ahW fw B (k + 1) = (-1 : Int) from hw1]
      exact h9
     clear HAN haw e1
     go_wp2_with fail
     clear s0 s1 a0 a1 f0 f1
     go_roundw
     case rel => exact ⟨k + 1, by omega, by go_num, HK2, T8⟩
     case measure => simp [intOf]; omega
  ·
   have hge : ¬ ((k : Int) < (nb : Int)) := by omega
   have HT : Hid (R = true) := HR.out.symm.trans (allT_yes fun q hq => HK.out q (by omega))
   go_wp2_with fail
   go_ret
   exact ⟨by rw [HT.out]; rfl, T.out.1.1⟩
end Go.Proofs.YtjhmaofjmalglaaGreat
