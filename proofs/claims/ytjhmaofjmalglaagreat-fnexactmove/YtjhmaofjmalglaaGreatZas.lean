import Derived.Test.YtjhmaofjmalglaaGreatZaq
import Derived.Test.YtjhmaofjmalglaaGreatZar
namespace Go.Proofs.YtjhmaofjmalglaaGreat
open Go.RowKit Go.Lib
def stepB (v : Nv) (p way : Int) : Bool := inB p 0 ((v.n : Int) - 1) && (decide (way = 1) || decide (way = -1))
def ahP (fp : Int) (B : Nat → Nat → Int) : Nat → Int
 | 0 => fp
 | i + 1 => B i 0
def ahW (fw : Int) (B : Nat → Nat → Int) : Nat → Int
 | 0 => fw
 | i + 1 => B i 1
def hvF (v : Nv) (fp fa fw : Int) (B : Nat → Nat → Int) : Nat → Int
 | 0 => farI (v.P fp.toNat).ln fa fw
 | i + 1 => hvF v fp fa fw B i + (v.P (B i 0).toNat).ln
def bkB (v : Nv) (fp fa fw lg : Int) (B : Nat → Nat → Int) (i : Nat) : Bool :=
 stepB v (B i 0) (B i 1) && (decide (hvF v fp fa fw B i < lg) && joinB v (B i 0).toNat (B i 1) (ahP fp B i).toNat (ahW fw B i))
def allT (f : Nat → Bool) : Nat → Bool
 | 0 => true
 | k + 1 => allT f k && f k
theorem allT_yes {f : Nat → Bool} : ∀ {k : Nat}, (∀ q, q < k → f q = true) → allT f k = true
 | 0, _ => rfl
 | k + 1, h => by rw [allT, allT_yes fun q hq => h q (by omega), h k (by omega)]; rfl
theorem allT_no {f : Nat → Bool} : ∀ {k q : Nat}, q < k → f q = false → allT f k = false
 | 0, _, h, _ => absurd h (Nat.not_lt_zero _)
 | k + 1, q, h, hf => by
  by_cases e : q = k
  ·
   subst e
   rw [allT, hf, Bool.and_false]
  ·
   rw [allT, allT_no (by omega) hf, Bool.false_and]
theorem allT_at {f : Nat → Bool} : ∀ {k : Nat}, allT f k = true → ∀ q, q < k → f q = true
 | 0, _, q, h => absurd h (Nat.not_lt_zero _)
 | k + 1, hf, q, h => by
  rw [allT, Bool.and_eq_true] at hf
  by_cases e : q = k
  ·
   subst e
   exact hf.2
  ·
   exact allT_at hf.1 q (by omega)
def trnB (v : Nv) (fp fa fw lg : Int) (nb : Nat) (B : Nat → Nat → Int) : Bool :=
 ((spotB v fp fa fw && inB lg 1 100000) && decide (nb ≤ 200)) && (allT (bkB v fp fa fw lg B) nb && decide (lg ≤ hvF v fp fa fw B nb))
theorem spot_nat {v : Nv} {p a way : Int} (h : spotB v p a way = true) : ∃ q : Nat, p = (q : Int) ∧ q < v.n ∧ (way = 1 ∨ way = -1) ∧ 0 ≤ a ∧ a ≤ (v.P q).ln := by
 simp only [spotB, Bool.and_eq_true, Bool.or_eq_true, decide_eq_true_eq] at h
 obtain ⟨⟨h1, h2⟩, h3⟩ := h
 obtain ⟨q, rfl, hq⟩ := inB_nat h1
 rw [Int.toNat_natCast] at h3
 simp only [inB, Bool.and_eq_true, decide_eq_true_eq] at h3
 exact ⟨q, rfl, hq, h2, h3.1, h3.2⟩
theorem step_nat {v : Nv} {p way : Int} (h : stepB v p way = true) : ∃ q : Nat, p = (q : Int) ∧ q < v.n ∧ (way = 1 ∨ way = -1) := by
 simp only [stepB, Bool.and_eq_true, Bool.or_eq_true, decide_eq_true_eq] at h
 obtain ⟨q, rfl, hq⟩ := inB_nat h.1
 exact ⟨q, rfl, hq, h.2⟩
theorem hv_bnd {v : Nv} (ok : v.Ok) {fp fa fw : Int} {B : Nat → Nat → Int} (hs : spotB v fp fa fw = true) : ∀ k, (∀ i, i < k → stepB v (B i 0) (B i 1) = true) → 0 ≤ hvF v fp fa fw B k ∧ hvF v fp fa fw B k ≤ ((k : Int) + 1) * 10000000
 | 0, _ => by
  obtain ⟨q, rfl, hq, hw, h0, h1⟩ := spot_nat hs
  have := ok.ln q hq
  rw [hvF, Int.toNat_natCast, farI]
  split <;> omega
 | k + 1, h => by
  have ih := hv_bnd ok hs k fun i hi => h i (by omega)
  obtain ⟨q, e, hq, _⟩ := step_nat (h k (by omega))
  have := ok.ln q hq
  rw [hvF, e, Int.toNat_natCast]
  push_cast
  omega
theorem box_ne {w : World} {a b : Nat} {T T' : TypeId} {xs ys : Array Value} (h : Box w a T xs) (h' : Box w b T' ys) (hT : T ≠ T') : a ≠ b := fun e => by
 subst e
 have h1 : some (Obj.cells xs T (0, 0)) = some (Obj.cells ys T' (0, 0)) := Eq.trans (Eq.symm h) h'
 simp only [Option.some.injEq, Obj.cells.injEq] at h1
 exact hT h1.2.1
theorem trn_spot {v : Nv} {fp fa fw lg : Int} {nb : Nat} {B : Nat → Nat → Int} (h : ((spotB v fp fa fw && inB lg 1 100000) && decide (nb ≤ 200)) = false) : trnB v fp fa fw lg nb B = false := by
 rw [trnB, h, Bool.false_and]
theorem trn_back {v : Nv} {fp fa fw lg : Int} {nb : Nat} {B : Nat → Nat → Int} {q : Nat} (hq : q < nb) (h : bkB v fp fa fw lg B q = false) : trnB v fp fa fw lg nb B = false := by
 rw [trnB, allT_no hq h, Bool.false_and, Bool.and_false]
theorem trn_end {v : Nv} {fp fa fw lg : Int} {nb : Nat} {B : Nat → Nat → Int} (h0 : ((spotB v fp fa fw && inB lg 1 100000) && decide (nb ≤ 200)) = true) (h : ∀ q, q < nb → bkB v fp fa fw lg B q = true) : trnB v fp fa fw lg nb B = decide (lg ≤ hvF v fp fa fw B nb) := by
 rw [trnB, h0, allT_yes h, Bool.true_and, Bool.true_and]
set_option maxRecDepth 100000 in
set_option maxHeartbeats 16000000 in
theorem train37 {v : Nv} (ok : v.Ok) (pa : Option Addr) (pc : Nat) (ja : Option Addr) (jc : Nat) (fp fa fw lg : Int) (nb : Nat) (B : Nat → Nat → Int) (ba : Option Addr) (bk : Nat) (w : World) (hnb : nb ≤ 1048576) (hP : PsAt 0 w pa v.n v.P) (hJ : JsAt 0 w ja v.m v.J) (hB : NsAt 2 0 w ba nb B) :
  Calls Tryz.prog 56 #[.agg #[.slice pa v.n pc, .slice ja v.m jc], .agg #[.int .i64 fp, .int .i64 fa, .int .i64 fw, .int .i64 lg, .slice ba nb bk]] w fun e w' => e = .returned (.bool (trnB v fp fa fw lg nb B)) ∧ Below w.heap.size w w' := by
 have H : Hid (v.Ok ∧ PsAt 0 w pa v.n v.P ∧ JsAt 0 w ja v.m v.J ∧ NsAt 2 0 w ba nb B) := ⟨ok, hP, hJ, hB⟩
 have hn := ok.n1
 have hn0 := ok.n0
 have hwn : IntKind.i64.wrap ((v.n : Int) - 1) = (v.n : Int) - 1 := by rw [IntKind.wrap_i64]; omega
 have S0 : Hid (Below w.heap.size w ((w.alloc (.cells #[.slice pa v.n pc, .slice ja v.m jc] 40)).alloc (.cells #[.int .i64 fp, .int .i64 fa, .int .i64 fw, .int .i64 lg, .slice ba nb bk] 33)) ∧ Box ((w.alloc (.cells #[.slice pa v.n pc, .slice ja v.m jc] 40)).alloc (.cells #[.int .i64 fp, .int .i64 fa, .int .i64 fw, .int .i64 lg, .slice ba nb bk] 33)) w.heap.size 40 #[.slice pa v.n pc, .slice ja v.m jc] ∧ Box ((w.alloc (.cells #[.slice pa v.n pc, .slice ja v.m jc] 40)).alloc (.cells #[.int .i64 fp, .int .i64 fa, .int .i64 fw, .int .i64 lg, .slice ba nb bk] 33)) (w.heap.size + 1) 33 #[.int .i64 fp, .int .i64 fa, .int .i64 fw, .int .i64 lg, .slice ba nb bk]) := ⟨bel2 _ _ _, (Box.new _ _ _).alloc _, by have := Box.new (w.alloc (.cells #[.slice pa v.n pc, .slice ja v.m jc] 40)) 33 #[.int .i64 fp, .int .i64 fa, .int .i64 fw, .int .i64 lg, .slice ba nb bk]; simpa using this⟩
 clear ok hP hJ hB
 obtain ⟨R, HR⟩ : ∃ R, Hid (trnB v fp fa fw lg nb B = R) := ⟨_, rfl⟩
 rw [HR.out]
 go_enter Tryz.func56, Tryz.ntmps56
 go_upto_region 1 with fail
 generalize ((w.alloc (.cells #[.slice pa v.n pc, .slice ja v.m jc] 40)).alloc (.cells #[.int .i64 fp, .int .i64 fa, .int .i64 fw, .int .i64 lg, .slice ba nb bk] 33)) = V0 at S0 ⊢
 have n0 : V0.cell? ⟨w.heap.size, 0, none⟩ = some (.slice pa v.n pc) := S0.out.2.1.cell 0
 have n1 : V0.cell? ⟨w.heap.size, 1, none⟩ = some (.slice ja v.m jc) := S0.out.2.1.cell 1
 have t0 : V0.cell? ⟨w.heap.size + 1, 0, none⟩ = some (.int .i64 fp) := S0.out.2.2.cell 0
 have t1 : V0.cell? ⟨w.heap.size + 1, 1, none⟩ = some (.int .i64 fa) := S0.out.2.2.cell 1
 have t2 : V0.cell? ⟨w.heap.size + 1, 2, none⟩ = some (.int .i64 fw) := S0.out.2.2.cell 2
 have t3 : V0.cell? ⟨w.heap.size + 1, 3, none⟩ = some (.int .i64 lg) := S0.out.2.2.cell 3
 have t4 : V0.cell? ⟨w.heap.size + 1, 4, none⟩ = some (.slice ba nb bk) := S0.out.2.2.cell 4
 go_wp2_with fail
 clear n0 n1 t0 t1 t2 t3 t4
 refine (spot62 H.out.1 pa pc ja jc fp fa fw _ (H.out.2.1.mono (Nat.le_refl _) S0.out.1 (Nat.le_refl _))).mono ?_
 rintro e w1 ⟨he, hb1⟩
 have S1 : Hid (Below w.heap.size w w1 ∧ Box w1 w.heap.size 40 #[.slice pa v.n pc, .slice ja v.m jc] ∧ Box w1 (w.heap.size + 1) 33 #[.int .i64 fp, .int .i64 fa, .int .i64 fw, .int .i64 lg, .slice ba nb bk]) := ⟨S0.out.1.trans (hb1.mono S0.out.1.size), S0.out.2.1.mono hb1 (Nat.le_refl _), S0.out.2.2.mono hb1 (Nat.le_refl _)⟩
 clear hb1 S0
 obtain ⟨u, HU⟩ : ∃ u, Hid (spotB v fp fa fw = u) := ⟨_, rfl⟩
 rw [HU.out] at he
 subst he
 cases u with
 | false =>
  have HT : Hid (R = false) := HR.out.symm.trans (trn_spot (by rw [HU.out]; rfl))
  go_wp2_with fail
  go_ret
  exact ⟨by rw [HT.out]; rfl, S1.out.1⟩
 | true =>
  have t3 : w1.cell? ⟨w.heap.size + 1, 3, none⟩ = some (.int .i64 lg) := S1.out.2.2.cell 3
  have t4 : w1.cell? ⟨w.heap.size + 1, 4, none⟩ = some (.slice ba nb bk) := S1.out.2.2.cell 4
  go_wp2_with fail
  refine (l22in53 lg 1 100000 w1).mono ?_
  rintro e w2 ⟨he, hw2⟩
  have hw2 := hw2.symm
  subst hw2
  obtain ⟨u2, HU2⟩ : ∃ u, Hid (inB lg 1 100000 = u) := ⟨_, rfl⟩
  rw [HU2.out] at he
  subst he
  cases u2 with
  | false =>
   have HT : Hid (R = false) := HR.out.symm.trans (trn_spot (by rw [HU.out, HU2.out]; rfl))
   go_wp2_with fail
   go_ret
   exact ⟨by rw [HT.out]; rfl, S1.out.1⟩
  | true =>
   by_cases hlb : 200 < nb
   ·
    have hlb' : (200 : Int) < (nb : Int) := by omega
    have HT : Hid (R = false) := HR.out.symm.trans (trn_spot (by rw [HU.out, HU2.out, decide_eq_false (by omega)]; rfl))
    go_wp2_with fail
    go_ret
    exact ⟨by rw [HT.out]; rfl, S1.out.1⟩
   have hlb' : ¬ ((200 : Int) < (nb : Int)) := by omega
   have HOK : Hid (((spotB v fp fa fw && inB lg 1 100000) && decide (nb ≤ 200)) = true) := by show _ = _; rw [HU.out, HU2.out, decide_eq_true (by omega)]; rfl
   have hlg : 1 ≤ lg ∧ lg ≤ 100000 := by have := HU2.out; simpa [inB] using this
   obtain ⟨fq, HFQ, hfq, hfw, hfa⟩ : ∃ q : Nat, Hid (fp = (q : Int)) ∧ q < v.n ∧ (fw = 1 ∨ fw = -1) ∧ (0 ≤ fa ∧ fa ≤ (v.P q).ln) := spot_nat HU.out
   have n0 : w1.cell? ⟨w.heap.size, 0, none⟩ = some (.slice pa v.n pc) := S1.out.2.1.cell 0
   have n1 : w1.cell? ⟨w.heap.size, 1, none⟩ = some (.slice ja v.m jc) := S1.out.2.1.cell 1
   have t0 : w1.cell? ⟨w.heap.size + 1, 0, none⟩ = some (.int .i64 (fq : Int)) := by rw [← HFQ.out]; exact S1.out.2.2.cell 0
   have t1 : w1.cell? ⟨w.heap.size + 1, 1, none⟩ = some (.int .i64 fa) := S1.out.2.2.cell 1
   have t2 : w1.cell? ⟨w.heap.size + 1, 2, none⟩ = some (.int .i64 fw) := S1.out.2.2.cell 2
   go_wp2_with fail
   clear n0 n1 t0 t1 t2 t3 t4
   refine (behind63 H.out.1 pa pc ja jc fq fa fw w1 hfq hfa (H.out.2.1.mono (Nat.le_refl _) S1.out.1 (Nat.le_refl _))).mono ?_
   rintro e w3 ⟨rfl, hb3⟩
   have S3 : Hid (Below w.heap.size w w3 ∧ Box w3 w.heap.size 40 #[.slice pa v.n pc, .slice ja v.m jc] ∧ Box w3 (w.heap.size + 1) 33 #[.int .i64 fp, .int .i64 fa, .int .i64 fw, .int .i64 lg, .slice ba nb bk]) := ⟨S1.out.1.trans (hb3.mono S1.out.1.size), S1.out.2.1.mono hb3 (Nat.le_refl _), S1.out.2.2.mono hb3 (Nat.le_refl _)⟩
   clear hb3 S1
   have T0 : Hid ((Below w.heap.size w (w3.alloc (.cells #[.int .i64 (fq : Int), .int .i64 fw] 74)) ∧ Box (w3.alloc (.cells #[.int .i64 (fq : Int), .int .i64 fw] 74)) w.heap.size 40 #[.slice pa v.n pc, .slice ja v.m jc] ∧ Box (w3.alloc (.cells #[.int .i64 (fq : Int), .int .i64 fw] 74)) (w.heap.size + 1) 33 #[.int .i64 fp, .int .i64 fa, .int .i64 fw, .int .i64 lg, .slice ba nb bk]) ∧ Box (w3.alloc (.cells #[.int .i64 (fq : Int), .int .i64 fw] 74)) w3.heap.size 74 #[.int .i64 (ahP fp B 0), .int .i64 (ahW fw B 0)]) := ⟨⟨S3.out.1.alloc S3.out.1.size _, S3.out.2.1.alloc _, S3.out.2.2.alloc _⟩, by have := Box.new w3 74 #[.int .i64 (fq : Int), .int .i64 fw]; rw [show ahP fp B 0 = (fq : Int) from HFQ.out]; exact this⟩
   have t0 : w3.cell? ⟨w.heap.size + 1, 0, none⟩ = some (.int .i64 (fq : Int)) := by rw [← HFQ.out]; exact S3.out.2.2.cell 0
   have t2 : w3.cell? ⟨w.heap.size + 1, 2, none⟩ = some (.int .i64 fw) := S3.out.2.2.cell 2
   have t4 : (w3.alloc (.cells #[.int .i64 (fq : Int), .int .i64 fw] 74)).cell? ⟨w.heap.size + 1, 4, none⟩ = some (.slice ba nb bk) := T0.out.1.2.2.cell 4
   go_wp2_with fail
   clear t0 t2 t4
   generalize w3.alloc (.cells #[.int .i64 (fq : Int), .int .i64 fw] 74) = V4 at T0 ⊢
   have HAQ : Hid (w.heap.size ≤ w3.heap.size) := S3.out.1.size
   generalize w3.heap.size = aq at T0 HAQ ⊢
   go_loopw [5, 40] (fun u c wr => ∃ (k : Nat) (x : Int), k ≤ nb ∧ c = .int .i64 k ∧ u = .int .i64 x ∧ Hid (x = hvF v fp fa fw B k) ∧ Hid (∀ q, q < k → bkB v fp fa fw lg B q = true) ∧ Hid ((Below w.heap.size w wr ∧ Box wr w.heap.size 40 #[.slice pa v.n pc, .slice ja v.m jc] ∧ Box wr (w.heap.size + 1) 33 #[.int .i64 fp, .int .i64 fa, .int .i64 fw, .int .i64 lg, .slice ba nb bk]) ∧ Box wr aq 74 #[.int .i64 (ahP fp B k), .int .i64 (ahW fw B k)])) (fun _ c _ => nb - (intOf c).toNat)
   case atStart => exact ⟨0, _, Nat.zero_le _, rfl, rfl, by show _ = _; rw [hvF, HFQ.out]; rfl, fun q hq => absurd hq (Nat.not_lt_zero _), T0⟩
   case round =>
    clear T0 S3
    obtain ⟨k, x, hk, rfl, rfl, HX, HK, T⟩ := hrel
    have HBD : Hid (0 ≤ x ∧ x ≤ 3000000000) := by
     have h1 := hv_bnd H.out.1 HU.out k fun i hi => by
      have := HK.out i hi
      rw [bkB, Bool.and_eq_true] at this
      exact this.1
     have := HX.out
     show _ ∧ _
     omega
    by_cases hlt : k < nb
    ·
     obtain ⟨bb, bo, hbe, _, hbl, hbc⟩ := H.out.2.2.2 (by omega)
     have hk0 : (0 : Int) ≤ (k : Int) := by omega
     have hkn : (k : Int) < (nb : Int) := by omega
     have d0 : wr.cell? ⟨bb, bo + k * 2, none⟩ = some (.int .i64 (B k 0)) := cell_keep T.out.1.1 hbl (hbc k hlt 0 (by omega))
     have d1 : wr.cell? ⟨bb, bo + k * 2 + 1, none⟩ = some (.int .i64 (B k 1)) := cell_keep T.out.1.1 hbl (hbc k hlt 1 (by omega))
     have hbs : ba = some ⟨bb, bo, none⟩ := hbe
     subst hbs
     have T1 : Hid (((Below w.heap.size w (wr.alloc (.cells #[.int .i64 (B k 0), .int .i64 (B k 1)] 74)) ∧ Box (wr.alloc (.cells #[.int .i64 (B k 0), .int .i64 (B k 1)] 74)) w.heap.size 40 #[.slice pa v.n pc, .slice ja v.m jc] ∧ Box (wr.alloc (.cells #[.int .i64 (B k 0), .int .i64 (B k 1)] 74)) (w.heap.size + 1) 33 #[.int .i64 fp, .int .i64 fa, .int .i64 fw, .int .i64 lg, .slice (some ⟨bb, bo, none⟩) nb bk]) ∧ Box (wr.alloc (.cells #[.int .i64 (B k 0), .int .i64 (B k 1)] 74)) aq 74 #[.int .i64 (ahP fp B k), .int .i64 (ahW fw B k)]) ∧ Box (wr.alloc (.cells #[.int .i64 (B k 0), .int .i64 (B k 1)] 74)) wr.heap.size 74 #[.int .i64 (B k 0), .int .i64 (B k 1)]) := ⟨⟨⟨T.out.1.1.alloc T.out.1.1.size _, T.out.1.2.1.alloc _, T.out.1.2.2.alloc _⟩, T.out.2.alloc _⟩, Box.new _ _ _⟩
     have n0 : (wr.alloc (.cells #[.int .i64 (B k 0), .int .i64 (B k 1)] 74)).cell? ⟨w.heap.size, 0, none⟩ = some (.slice pa v.n pc) := T1.out.1.1.2.1.cell 0
     have t3 : (wr.alloc (.cells #[.int .i64 (B k 0), .int .i64 (B k 1)] 74)).cell? ⟨w.heap.size + 1, 3, none⟩ = some (.int .i64 lg) := T1.out.1.1.2.2.cell 3
     clear hbc hbl T
     go_wp2_with fail
     clear d0 d1 n0 t3
     generalize (wr.alloc (.cells #[.int .i64 (B k 0), .int .i64 (B k 1)] 74)) = V5 at T1 ⊢
     generalize wr.heap.size = sq at T1 ⊢
     refine (l22in53 (B k 0) 0 ((v.n : Int) - 1) V5).mono ?_
     rintro e w6 ⟨he, hw6⟩
     have hw6 := hw6.symm
     subst hw6
     obtain ⟨u3, HU3⟩ : ∃ u, Hid (inB (B k 0) 0 ((v.n : Int) - 1) = u) := ⟨_, rfl⟩
     rw [HU3.out] at he
     subst he
     cases u3 with
     | false =>
      have HT : Hid (R = false) := HR.out.symm.trans (trn_back hlt (by rw [bkB, stepB, HU3.out]; rfl))
      go_wp2_with fail
      go_ret
      exact ⟨by rw [HT.out]; rfl, T1.out.1.1.1⟩
     | true =>
      obtain ⟨sp, HSP, hsp⟩ : ∃ q : Nat, Hid (B k 0 = (q : Int)) ∧ q < v.n := by
       obtain ⟨q, h1, h2⟩ := inB_nat HU3.out
       exact ⟨q, h1, h2⟩
      have s1 : V5.cell? ⟨sq, 1, none⟩ = some (.int .i64 (B k 1)) := T1.out.2.cell 1
      have t3 : V5.cell? ⟨w.heap.size + 1, 3, none⟩ = some (.int .i64 lg) := T1.out.1.1.2.2.cell 3
      by_cases hway : B k 1 = 1 ∨ B k 1 = -1
      ·
       have HST : Hid (stepB v (B k 0) (B k 1) = true) := by
        show _ = _
        rw [stepB, HU3.out]
        rcases hway with h | h <;> rw [h] <;> rfl
       by_cases hhv : lg ≤ x
       ·
        have HT : Hid (R = false) := HR.out.symm.trans (trn_back hlt (by rw [bkB, decide_eq_false (by rw [← HX.out]; omega), Bool.false_and, Bool.and_false]))
        rcases hway with hw1 | hw1
        ·
         rw [hw1] at s1
         go_wp2_with fail
         go_ret
         exact ⟨by rw [HT.out]; rfl, T1.out.1.1.1⟩
        ·
         rw [hw1] at s1
         go_wp2_with fail
         go_ret
         exact ⟨by rw [HT.out]; rfl, T1.out.1.1.1⟩
       ·
        have hhv' : x < lg := by omega
        obtain ⟨an, HAN, haw⟩ : ∃ q : Nat, Hid (ahP fp B k = (q : Int)) ∧ (ahW fw B k = 1 ∨ ahW fw B k = -1) := by
         cases k with
         | zero => exact ⟨fq, HFQ.out, hfw⟩
         | succ i =>
          have h1 := HK.out i (by omega)
          rw [bkB, Bool.and_eq_true] at h1
          obtain ⟨q, h2, _, h3⟩ := step_nat h1.1
          exact ⟨q, h2, h3⟩
        obtain ⟨pb, po, hpe, _, hpb, hpc⟩ := H.out.2.1 (by omega)
        have HC1 : Hid (pb < w.heap.size ∧ w.cell? ⟨pb, po + sp * 4 + 1, none⟩ = some (.int .i64 (v.P sp).ln) ∧ pa = some ⟨pb, po, none⟩) := ⟨hpb, (hpc sp hsp).2.1, hpe⟩
        have hln := H.out.1.ln sp hsp
        have hspi : (sp : Int) < (v.n : Int) := by omega
        have hsp0 : (0 : Int) ≤ (sp : Int) := by omega
        have HNX : Hid (x + (v.P sp).ln = hvF v fp fa fw B (k + 1)) := by show _ = _; rw [hvF, ← HX.out, HSP.out, Int.toNat_natCast]
        have hwx : IntKind.i64.wrap (x + (v.P sp).ln) = x + (v.P sp).ln := by have := HBD.out; rw [IntKind.wrap_i64]; omega
        have HJN : Hid (joinB v sp (B k 1) an (ahW fw B k) = joinB v (B k 0).toNat (B k 1) (ahP fp B k).toNat (ahW fw B k)) := by show _ = _; rw [HSP.out, HAN.out, Int.toNat_natCast, Int.toNat_natCast]
        have HBK : Hid (bkB v fp fa fw lg B k = joinB v sp (B k 1) an (ahW fw B k)) := by show _ = _; rw [bkB, HST.out, decide_eq_true (by rw [← HX.out]; exact hhv'), HJN.out, Bool.true_and, Bool.true_and]
        clear hpc hpb hpe
        have s0 : V5.cell? ⟨sq, 0, none⟩ = some (.int .i64 (sp : Int)) := by rw [← HSP.out]; exact T1.out.2.cell 0
        have a0 : V5.cell? ⟨aq, 0, none⟩ = some (.int .i64 (an : Int)) := by rw [← HAN.out]; exact T1.out.1.2.cell 0
        have a1 : V5.cell? ⟨aq, 1, none⟩ = some (.int .i64 (ahW fw B k)) := T1.out.1.2.cell 1
        have n0 : V5.cell? ⟨w.heap.size, 0, none⟩ = some (.slice pa v.n pc) := T1.out.1.1.2.1.cell 0
        have n1 : V5.cell? ⟨w.heap.size, 1, none⟩ = some (.slice ja v.m jc) := T1.out.1.1.2.1.cell 1
        rcases hway with hw1 | hw1
        ·
         rw [hw1] at s1 HBK
         have HT7 : Hid (∀ W, Below V5.heap.size V5 W → ((Below w.heap.size w W ∧ Box W w.heap.size 40 #[.slice pa v.n pc, .slice ja v.m jc] ∧ Box W (w.heap.size + 1) 33 #[.int .i64 fp, .int .i64 fa, .int .i64 fw, .int .i64 lg, .slice (some ⟨bb, bo, none⟩) nb bk]) ∧ Box W aq 74 #[.int .i64 (ahP fp B k), .int .i64 (ahW fw B k)]) ∧ Box W sq 74 #[.int .i64 (B k 0), .int .i64 (B k 1)]) := fun W hb => ⟨⟨⟨T1.out.1.1.1.trans (hb.mono T1.out.1.1.1.size), T1.out.1.1.2.1.mono hb (Nat.le_refl _), T1.out.1.1.2.2.mono hb (Nat.le_refl _)⟩, T1.out.1.2.mono hb (Nat.le_refl _)⟩, T1.out.2.mono hb (Nat.le_refl _)⟩
         go_wp2_with fail
         clear s0 s1 a0 a1 n0 n1 t3
         refine (joined64 H.out.1 pa pc ja jc sp (1 : Int) an (ahW fw B k) V5 hsp haw (H.out.2.2.1.mono (Nat.le_refl _) T1.out.1.1.1 (Nat.le_refl _))).mono ?_
         rintro e w7 ⟨he, hb7⟩
         have T7 : Hid (((Below w.heap.size w w7 ∧ Box w7 w.heap.size 40 #[.slice pa v.n pc, .slice ja v.m jc] ∧ Box w7 (w.heap.size + 1) 33 #[.int .i64 fp, .int .i64 fa, .int .i64 fw, .int .i64 lg, .slice (some ⟨bb, bo, none⟩) nb bk]) ∧ Box w7 aq 74 #[.int .i64 (ahP fp B k), .int .i64 (ahW fw B k)]) ∧ Box w7 sq 74 #[.int .i64 (B k 0), .int .i64 (B k 1)]) := HT7.out w7 hb7
         clear hb7 T1 HT7
         obtain ⟨u4, HU4⟩ : ∃ u, Hid (joinB v sp (1 : Int) an (ahW fw B k) = u) := ⟨_, rfl⟩
         rw [HU4.out] at he
         subst he
         cases u4 with
         | false =>
          have HT : Hid (R = false) := HR.out.symm.trans (trn_back hlt (HBK.out.trans HU4.out))
          go_wp2_with fail
          go_ret
          exact ⟨by rw [HT.out]; rfl, T7.out.1.1.1⟩
         | true =>
          have HK2 : Hid (∀ q, q < k + 1 → bkB v fp fa fw lg B q = true) := fun q hq => by
           by_cases c : q = k
           ·
            subst c
            exact HBK.out.trans HU4.out
           ·
            exact HK.out q (by omega)
          have s0 : w7.cell? ⟨sq, 0, none⟩ = some (.int .i64 (sp : Int)) := by rw [← HSP.out]; exact T7.out.2.cell 0
          have s1 : w7.cell? ⟨sq, 1, none⟩ = some (.int .i64 1) := by rw [← hw1]; exact T7.out.2.cell 1
          have n0 : w7.cell? ⟨w.heap.size, 0, none⟩ = some (.slice (some ⟨pb, po, none⟩) v.n pc) := by rw [← HC1.out.2.2]; exact T7.out.1.1.2.1.cell 0
          have c1 : w7.cell? ⟨pb, po + sp * 4 + 1, none⟩ = some (.int .i64 (v.P sp).ln) := cell_keep T7.out.1.1.1 HC1.out.1 HC1.out.2.1
          have a0 : w7.cell? ⟨aq, 0, none⟩ = some (.int .i64 (ahP fp B k)) := T7.out.1.2.cell 0
          have a1 : w7.cell? ⟨aq, 1, none⟩ = some (.int .i64 (ahW fw B k)) := T7.out.1.2.cell 1
          have f0 := T7.out.1.2.free 0
          have f1 := T7.out.1.2.free 1
          have e1 : w.heap.size ≠ aq := box_ne T7.out.1.1.2.1 T7.out.1.2 (by decide)
          have e2 : w.heap.size + 1 ≠ aq := box_ne T7.out.1.1.2.2 T7.out.1.2 (by decide)
          have T8 : Hid ((Below w.heap.size w ((w7.setCell ⟨aq, 0, none⟩ (.int .i64 (sp : Int))).setCell ⟨aq, 1, none⟩ (.int .i64 1)) ∧ Box ((w7.setCell ⟨aq, 0, none⟩ (.int .i64 (sp : Int))).setCell ⟨aq, 1, none⟩ (.int .i64 1)) w.heap.size 40 #[.slice pa v.n pc, .slice ja v.m jc] ∧ Box ((w7.setCell ⟨aq, 0, none⟩ (.int .i64 (sp : Int))).setCell ⟨aq, 1, none⟩ (.int .i64 1)) (w.heap.size + 1) 33 #[.int .i64 fp, .int .i64 fa, .int .i64 fw, .int .i64 lg, .slice (some ⟨bb, bo, none⟩) nb bk]) ∧ Box ((w7.setCell ⟨aq, 0, none⟩ (.int .i64 (sp : Int))).setCell ⟨aq, 1, none⟩ (.int .i64 1)) aq 74 #[.int .i64 (ahP fp B (k + 1)), .int .i64 (ahW fw B (k + 1))]) := by
           refine ⟨⟨(T7.out.1.1.1.setCell HAQ.out _).setCell HAQ.out _, (T7.out.1.1.2.1.other e1 _).other e1 _, (T7.out.1.1.2.2.other e2 _).other e2 _⟩, ?_⟩
           have h9 := (T7.out.1.2.set 0 (.int .i64 (sp : Int))).set 1 (.int .i64 1)
           rw [show ahP fp B (k + 1) = (sp : Int) from HSP.out, show ahW fw B (k + 1) = (1 : Int) from hw1]
           exact h9
          clear HAN haw e1 e2
          go_wp2_with fail
          clear s0 s1 n0 c1 a0 a1 f0 f1
          go_roundw
          case rel => exact ⟨k + 1, _, by omega, by go_num, rfl, HNX, HK2, T8⟩
          case measure => simp [intOf]; omega
        ·
         rw [hw1] at s1 HBK
         have HT7 : Hid (∀ W, Below V5.heap.size V5 W → ((Below w.heap.size w W ∧ Box W w.heap.size 40 #[.slice pa v.n pc, .slice ja v.m jc] ∧ Box W (w.heap.size + 1) 33 #[.int .i64 fp, .int .i64 fa, .int .i64 fw, .int .i64 lg, .slice (some ⟨bb, bo, none⟩) nb bk]) ∧ Box W aq 74 #[.int .i64 (ahP fp B k), .int .i64 (ahW fw B k)]) ∧ Box W sq 74 #[.int .i64 (B k 0), .int .i64 (B k 1)]) := fun W hb => ⟨⟨⟨T1.out.1.1.1.trans (hb.mono T1.out.1.1.1.size), T1.out.1.1.2.1.mono hb (Nat.le_refl _), T1.out.1.1.2.2.mono hb (Nat.le_refl _)⟩, T1.out.1.2.mono hb (Nat.le_refl _)⟩, T1.out.2.mono hb (Nat.le_refl _)⟩
         go_wp2_with fail
         clear s0 s1 a0 a1 n0 n1 t3
         refine (joined64 H.out.1 pa pc ja jc sp (-1 : Int) an (ahW fw B k) V5 hsp haw (H.out.2.2.1.mono (Nat.le_refl _) T1.out.1.1.1 (Nat.le_refl _))).mono ?_
         rintro e w7 ⟨he, hb7⟩
         have T7 : Hid (((Below w.heap.size w w7 ∧ Box w7 w.heap.size 40 #[.slice pa v.n pc, .slice ja v.m jc] ∧ Box w7 (w.heap.size + 1) 33 #[.int .i64 fp, .int .i64 fa, .int .i64 fw, .int .i64 lg, .slice (some ⟨bb, bo, none⟩) nb bk]) ∧ Box w7 aq 74 #[.int .i64 (ahP fp B k), .int .i64 (ahW fw B k)]) ∧ Box w7 sq 74 #[.int .i64 (B k 0), .int .i64 (B k 1)]) := HT7.out w7 hb7
         clear hb7 T1 HT7
         obtain ⟨u4, HU4⟩ : ∃ u, Hid (joinB v sp (-1 : Int) an (ahW fw B k) = u) := ⟨_, rfl⟩
         rw [HU4.out] at he
         subst he
         cases u4 with
         | false =>
          have HT : Hid (R = false) := HR.out.symm.trans (trn_back hlt (HBK.out.trans HU4.out))
          go_wp2_with fail
          go_ret
          exact ⟨by rw [HT.out]; rfl, T7.out.1.1.1⟩
         | true =>
          have HK2 : Hid (∀ q, q < k + 1 → bkB v fp fa fw lg B q = true) := fun q hq => by
           by_cases c : q = k
           ·
            subst c
            exact HBK.out.trans HU4.out
           ·
            exact HK.out q (by omega)
          have s0 : w7.cell? ⟨sq, 0, none⟩ = some (.int .i64 (sp : Int)) := by rw [← HSP.out]; exact T7.out.2.cell 0
          have s1 : w7.cell? ⟨sq, 1, none⟩ = some (.int .i64 (-1)) := by rw [← hw1]; exact T7.out.2.cell 1
          have n0 : w7.cell? ⟨w.heap.size, 0, none⟩ = some (.slice (some ⟨pb, po, none⟩) v.n pc) := by rw [← HC1.out.2.2]; exact T7.out.1.1.2.1.cell 0
          have c1 : w7.cell? ⟨pb, po + sp * 4 + 1, none⟩ = some (.int .i64 (v.P sp).ln) := cell_keep T7.out.1.1.1 HC1.out.1 HC1.out.2.1
          have a0 : w7.cell? ⟨aq, 0, none⟩ = some (.int .i64 (ahP fp B k)) := T7.out.1.2.cell 0
          have a1 : w7.cell? ⟨aq, 1, none⟩ = some (.int .i64 (ahW fw B k)) := T7.out.1.2.cell 1
          have f0 := T7.out.1.2.free 0
          have f1 := T7.out.1.2.free 1
          have e1 : w.heap.size ≠ aq := box_ne T7.out.1.1.2.1 T7.out.1.2 (by decide)
          have e2 : w.heap.size + 1 ≠ aq := box_ne T7.out.1.1.2.2 T7.out.1.2 (by decide)
          have T8 : Hid ((Below w.heap.size w ((w7.setCell ⟨aq, 0, none⟩ (.int .i64 (sp : Int))).setCell ⟨aq, 1, none⟩ (.int .i64 (-1))) ∧ Box ((w7.setCell ⟨aq, 0, none⟩ (.int .i64 (sp : Int))).setCell ⟨aq, 1, none⟩ (.int .i64 (-1))) w.heap.size 40 #[.slice pa v.n pc, .slice ja v.m jc] ∧ Box ((w7.setCell ⟨aq, 0, none⟩ (.int .i64 (sp : Int))).setCell ⟨aq, 1, none⟩ (.int .i64 (-1))) (w.heap.size + 1) 33 #[.int .i64 fp, .int .i64 fa, .int .i64 fw, .int .i64 lg, .slice (some ⟨bb, bo, none⟩) nb bk]) ∧ Box ((w7.setCell ⟨aq, 0, none⟩ (.int .i64 (sp : Int))).setCell ⟨aq, 1, none⟩ (.int .i64 (-1))) aq 74 #[.int .i64 (ahP fp B (k + 1)), .int .i64 (ahW fw B (k + 1))]) := by
           refine ⟨⟨(T7.out.1.1.1.setCell HAQ.out _).setCell HAQ.out _, (T7.out.1.1.2.1.other e1 _).other e1 _, (T7.out.1.1.2.2.other e2 _).other e2 _⟩, ?_⟩
           have h9 := (T7.out.1.2.set 0 (.int .i64 (sp : Int))).set 1 (.int .i64 (-1))
           rw [show ahP fp B (k + 1) = (sp : Int) from HSP.out, show ahW fw B (k + 1) = (-1 : Int) from hw1]
           exact h9
          clear HAN haw e1 e2
          go_wp2_with fail
          clear s0 s1 n0 c1 a0 a1 f0 f1
          go_roundw
          case rel => exact ⟨k + 1, _, by omega, by go_num, rfl, HNX, HK2, T8⟩
          case measure => simp [intOf]; omega
      ·
       have hw1 : (B k 1 != 1) = true := by
        have : B k 1 ≠ 1 := fun h => hway (Or.inl h)
        simpa using this
       have hw2 : (B k 1 != -1) = true := by
        have : B k 1 ≠ -1 := fun h => hway (Or.inr h)
        simpa using this
       have HT : Hid (R = false) := HR.out.symm.trans (trn_back hlt (by
        rw [bkB, stepB, HU3.out, decide_eq_false (fun h => hway (Or.inl h)), decide_eq_false (fun h => hway (Or.inr h))]
        rfl))
       go_wp2_with fail
       go_ret
       exact ⟨by rw [HT.out]; rfl, T1.out.1.1.1⟩
    ·
     have hge : ¬ ((k : Int) < (nb : Int)) := by omega
     have hkk : k = nb := by omega
     have HT : Hid (R = decide (lg ≤ x)) := by
      refine HR.out.symm.trans ((trn_end HOK.out fun q hq => HK.out q (by omega)).trans ?_)
      rw [HX.out, hkk]
     have t3 : wr.cell? ⟨w.heap.size + 1, 3, none⟩ = some (.int .i64 lg) := T.out.1.2.2.cell 3
     go_wp2_with fail
     go_ret
     exact ⟨by rw [HT.out]; rfl, T.out.1.1⟩
end Go.Proofs.YtjhmaofjmalglaaGreat
