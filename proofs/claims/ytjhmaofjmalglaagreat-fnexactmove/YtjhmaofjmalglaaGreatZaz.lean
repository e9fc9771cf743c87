import Derived.Test.YtjhmaofjmalglaaGreatZay
import Derived.Test.YtjhmaofjmalglaaGreatZan
namespace Go.Proofs.YtjhmaofjmalglaaGreat
open Go.RowKit Go.Lib
def NsTo (wr : World) (B n k : Nat) (F : Nat → Nat → Int) : Prop := ∃ f, wr.rowIs B 74 (n * 2) f ∧ ∀ j, j < k → f (j * 2) = .int .i64 (F j 0) ∧ f (j * 2 + 1) = .int .i64 (F j 1)
theorem NsTo.step {w : World} {B n k : Nat} {F : Nat → Nat → Int} (h : NsTo w B n k F) :
  NsTo ((w.setCell ⟨B, k * 2, none⟩ (.int .i64 (F k 0))).setCell ⟨B, k * 2 + 1, none⟩ (.int .i64 (F k 1))) B n (k + 1) F := by
 obtain ⟨f, hr, hf⟩ := h
 refine ⟨_, (hr.set _ _).set _ _, fun j hj => ?_⟩
 by_cases e : j = k
 ·
  subst e
  simp
 ·
  have := hf j (by omega)
  simp only [show ¬ j * 2 = k * 2 by omega, show ¬ j * 2 = k * 2 + 1 by omega, show ¬ j * 2 + 1 = k * 2 by omega, show ¬ j * 2 + 1 = k * 2 + 1 by omega, if_false]
  exact this
theorem NsTo.at {w : World} {B n : Nat} {F : Nat → Nat → Int} (h : NsTo w B n n F) : NsAt 2 B w (some ⟨B, 0, none⟩) n F := by
 obtain ⟨f, hr, hf⟩ := h
 intro _
 refine ⟨B, 0, rfl, Nat.le_refl _, hr.lt, fun i hi j hj => ?_⟩
 obtain ⟨h1, h2⟩ := hf i hi
 rcases (show j = 0 ∨ j = 1 by omega) with rfl | rfl
 ·
  rw [Nat.zero_add, ← h1]
  exact hr.cell (by omega)
 ·
  rw [Nat.zero_add, ← h2]
  exact hr.cell (by omega)
theorem info114 : (Tryz.prog.info? 74).map (fun i => (i.zero, i.size, i.bytes)) = some (some (.agg #[.int .i64 0, .int .i64 0]), 2, 16) := by kernel_rfl
theorem toStep65 (a b : Int) (w : World) :
  Calls Tryz.prog 100 #[.agg #[.int .i64 a, .int .i64 b]] w fun e w' => e = .returned (.agg #[.int .i64 a, .int .i64 b]) ∧ Below w.heap.size w w' := by
 go_enter Tryz.func100, Tryz.ntmps100
 go_wp2
 exact bodyPost_ret (v := .agg #[.int .i64 a, .int .i64 b]) (by simp [results, Tryz.results100, go_sem]) rfl ⟨rfl, bel3 _ _ _ _⟩
theorem eqStep71 (a b : Int) (w : World) :
  Calls Tryz.prog 107 #[.agg #[.int .i64 a, .int .i64 b], .agg #[.int .i64 a, .int .i64 b]] w fun e w' => e = .returned (.bool true) ∧ Below w.heap.size w w' := by
 go_enter Tryz.func107, Tryz.ntmps107
 go_wp2
 go_ret
 exact ⟨rfl, bel2 _ _ _⟩
theorem toSpot38 (a b c : Int) (w : World) :
  Calls Tryz.prog 10 #[.agg #[.int .i64 a, .int .i64 b, .int .i64 c]] w fun e w' => e = .returned (.agg #[.int .i64 a, .int .i64 b, .int .i64 c]) ∧ Below w.heap.size w w' := by
 go_enter Tryz.func10, Tryz.ntmps10
 go_wp2
 exact bodyPost_ret (v := .agg #[.int .i64 a, .int .i64 b, .int .i64 c]) (by simp [results, Tryz.results10, go_sem]) rfl ⟨rfl, bel3 _ _ _ _⟩
theorem eqSpot21 (a b c : Int) (w : World) :
  Calls Tryz.prog 63 #[.agg #[.int .i64 a, .int .i64 b, .int .i64 c], .agg #[.int .i64 a, .int .i64 b, .int .i64 c]] w fun e w' => e = .returned (.bool true) ∧ Below w.heap.size w w' := by
 go_enter Tryz.func63, Tryz.ntmps63
 go_wp2
 go_ret
 exact ⟨rfl, bel2 _ _ _⟩
theorem szStepS36 (a : Option Addr) (n cap : Nat) (left : Int) (w : World) (hn : n ≤ maxLen) (h0 : 0 ≤ left) (h1 : left ≤ 1048576) :
  Calls Tryz.prog 54 #[.slice a n cap, .int .i64 left] w fun e w' => e = .returned (.int .i64 (if left < (n : Int) then -1 else left - n)) ∧ w' = w := by
 unfold maxLen at hn
 by_cases h : left < (n : Int)
 ·
  rw [if_pos h]
  go_enter Tryz.func54, Tryz.ntmps54
  go_wp2
  go_ret
  exact ⟨rfl, rfl⟩
 ·
  rw [if_neg h]
  go_enter Tryz.func54, Tryz.ntmps54
  go_wp2
  go_ret
  exact ⟨rfl, rfl⟩
theorem szTrain14 (fp fa fw lg : Int) (nb : Nat) (ba : Option Addr) (bk : Nat) (left : Int) (w : World) (hn : nb ≤ maxLen) (h0 : 0 ≤ left) (h1 : left ≤ 1048576) :
  Calls Tryz.prog 19 #[.agg #[.int .i64 fp, .int .i64 fa, .int .i64 fw, .int .i64 lg, .slice ba nb bk], .int .i64 left] w fun e w' => ∃ r : Int, e = .returned (.int .i64 r) ∧ r ≤ left ∧ (0 ≤ r → (nb : Int) ≤ left) ∧ Below w.heap.size w w' := by
 by_cases h : left < (nb : Int)
 ·
  go_enter Tryz.func19, Tryz.ntmps19
  go_wp2_with fail
  refine (szStepS36 ba nb bk left _ hn h0 h1).mono ?_
  rw [if_pos h]
  rintro e w1 ⟨rfl, rfl⟩
  go_wp2
  go_ret
  exact ⟨-1, rfl, by omega, by omega, bel1 _ _⟩
 ·
  go_enter Tryz.func19, Tryz.ntmps19
  go_wp2_with fail
  refine (szStepS36 ba nb bk left _ hn h0 h1).mono ?_
  rw [if_neg (by omega : ¬ left < (nb : Int))]
  have hn0 : ¬ (left - (nb : Int) < 0) := by omega
  rintro e w1 ⟨rfl, rfl⟩
  go_wp2
  go_ret
  exact ⟨left - nb, rfl, by omega, fun _ => by omega, bel1 _ _⟩
set_option maxHeartbeats 1000000 in
theorem eqStepS41 (a a' : Option Addr) (n cap cap' : Nat) (E : Nat → Nat → Int) (w : World) (hn : n ≤ 1048576) (hE : NsAt 2 0 w a n E) (hE' : NsAt 2 0 w a' n E) :
  Calls Tryz.prog 64 #[.slice a n cap, .slice a' n cap'] w fun e w' => e = .returned (.bool true) ∧ Below w.heap.size w w' := by
 go_enter Tryz.func64, Tryz.ntmps64
 go_wp2_with fail
 go_loopw [5] (fun i wr => ∃ (k : Nat), k ≤ n ∧ i = .int .i64 k ∧ Below w.heap.size w wr) (fun i _ => n - (intOf i).toNat)
 case atStart => exact ⟨0, Nat.zero_le _, rfl, Below.refl _ _⟩
 case round =>
  obtain ⟨k, hk, rfl, hbel⟩ := hrel
  by_cases hlt : k < n
  ·
   obtain ⟨b, off, rfl, _, hb, hc⟩ := (hE.mono nr hbel nr) (by omega)
   have c0 : wr.cell? ⟨b, off + k * 2, none⟩ = some (.int .i64 (E k 0)) := hc k hlt 0 (by omega)
   have c1 : wr.cell? ⟨b, off + k * 2 + 1, none⟩ = some (.int .i64 (E k 1)) := hc k hlt 1 (by omega)
   obtain ⟨b', off', rfl, _, hb', hc'⟩ := (hE'.mono nr hbel nr) (by omega)
   have c0' : wr.cell? ⟨b', off' + k * 2, none⟩ = some (.int .i64 (E k 0)) := hc' k hlt 0 (by omega)
   have c1' : wr.cell? ⟨b', off' + k * 2 + 1, none⟩ = some (.int .i64 (E k 1)) := hc' k hlt 1 (by omega)
   have hlt' : (k : Int) < (n : Int) := by omega
   have hk0 : (0 : Int) ≤ (k : Int) := by omega
   clear hc hc'
   go_wp2_with fail
   go_region_with (go_at_call 107; refine (eqStep71 (E k 0) (E k 1) _).mono ?_; rintro e w1 ⟨rfl, hb1⟩)
   all_goals
    go_wp2_with fail
    go_roundw
    case rel => exact ⟨k + 1, by omega, by go_num, hbel.drew.trans (hb1.mono hbel.drew.size)⟩
    case measure => simp [intOf]; omega
  ·
   go_wp2
   go_ret
   exact ⟨rfl, hbel⟩
end Go.Proofs.YtjhmaofjmalglaaGreat
namespace Go.Proofs.YtjhmaofjmalglaaGreat
open Go.RowKit Go.Lib
set_option maxHeartbeats 4000000 in
theorem eqTrain18 (fp fa fw lg : Int) (nb : Nat) (B : Nat → Nat → Int) (ba ba' : Option Addr) (bk bk' : Nat) (w : World) (hn : nb ≤ 1048576) (hB : NsAt 2 0 w ba nb B) (hB' : NsAt 2 0 w ba' nb B) :
  Calls Tryz.prog 23 #[.agg #[.int .i64 fp, .int .i64 fa, .int .i64 fw, .int .i64 lg, .slice ba nb bk], .agg #[.int .i64 fp, .int .i64 fa, .int .i64 fw, .int .i64 lg, .slice ba' nb bk']] w fun e w' => e = .returned (.bool true) ∧ Below w.heap.size w w' := by
 have S0 : Hid (Below w.heap.size w ((w.alloc (.cells #[.int .i64 fp, .int .i64 fa, .int .i64 fw, .int .i64 lg, .slice ba nb bk] 33)).alloc (.cells #[.int .i64 fp, .int .i64 fa, .int .i64 fw, .int .i64 lg, .slice ba' nb bk'] 33)) ∧ Box ((w.alloc (.cells #[.int .i64 fp, .int .i64 fa, .int .i64 fw, .int .i64 lg, .slice ba nb bk] 33)).alloc (.cells #[.int .i64 fp, .int .i64 fa, .int .i64 fw, .int .i64 lg, .slice ba' nb bk'] 33)) w.heap.size 33 #[.int .i64 fp, .int .i64 fa, .int .i64 fw, .int .i64 lg, .slice ba nb bk] ∧ Box ((w.alloc (.cells #[.int .i64 fp, .int .i64 fa, .int .i64 fw, .int .i64 lg, .slice ba nb bk] 33)).alloc (.cells #[.int .i64 fp, .int .i64 fa, .int .i64 fw, .int .i64 lg, .slice ba' nb bk'] 33)) (w.heap.size + 1) 33 #[.int .i64 fp, .int .i64 fa, .int .i64 fw, .int .i64 lg, .slice ba' nb bk']) := ⟨bel2 _ _ _, (Box.new _ _ _).alloc _, by have := Box.new (w.alloc (.cells #[.int .i64 fp, .int .i64 fa, .int .i64 fw, .int .i64 lg, .slice ba nb bk] 33)) 33 #[.int .i64 fp, .int .i64 fa, .int .i64 fw, .int .i64 lg, .slice ba' nb bk']; simpa using this⟩
 go_enter Tryz.func23, Tryz.ntmps23
 go_upto_region 1 with fail
 generalize ((w.alloc (.cells #[.int .i64 fp, .int .i64 fa, .int .i64 fw, .int .i64 lg, .slice ba nb bk] 33)).alloc (.cells #[.int .i64 fp, .int .i64 fa, .int .i64 fw, .int .i64 lg, .slice ba' nb bk'] 33)) = V0 at S0 ⊢
 have t0 := S0.out.2.1.cel 0
 have t1 := S0.out.2.1.cel 1
 have t2 := S0.out.2.1.cel 2
 have t3 := S0.out.2.1.cel 3
 have t4 := S0.out.2.1.cel 4
 have u0 := S0.out.2.2.cel 0
 have u1 := S0.out.2.2.cel 1
 have u2 := S0.out.2.2.cel 2
 have u3 := S0.out.2.2.cel 3
 have u4 := S0.out.2.2.cel 4
 go_wp2_with fail
 clear t0 t1 t2 t3 t4 u0 u1 u2 u3 u4
 refine (eqSpot21 fp fa fw V0).mono ?_
 rintro e w1 ⟨rfl, hb1⟩
 have S1 : Hid (Below w.heap.size w w1 ∧ Box w1 w.heap.size 33 #[.int .i64 fp, .int .i64 fa, .int .i64 fw, .int .i64 lg, .slice ba nb bk] ∧ Box w1 (w.heap.size + 1) 33 #[.int .i64 fp, .int .i64 fa, .int .i64 fw, .int .i64 lg, .slice ba' nb bk']) := ⟨S0.out.1.trans (hb1.mono S0.out.1.size), S0.out.2.1.mono hb1 nr, S0.out.2.2.mono hb1 nr⟩
 clear hb1 S0
 have t3 := S1.out.2.1.cel 3
 have t4 := S1.out.2.1.cel 4
 have u3 := S1.out.2.2.cel 3
 have u4 := S1.out.2.2.cel 4
 go_wp2_with fail
 refine (eqStepS41 ba ba' nb bk bk' B w1 hn (hB.mono nr S1.out.1 nr) (hB'.mono nr S1.out.1 nr)).mono ?_
 rintro e w2 ⟨rfl, hb2⟩
 have HE : Hid (Below w.heap.size w w2) := S1.out.1.trans (hb2.mono S1.out.1.size)
 go_wp2_with fail
 go_ret
 exact ⟨rfl, HE.out⟩
set_option maxHeartbeats 4000000 in
theorem implTrain17 {v : Nv} (pa : Option Addr) (pc : Nat) (ja : Option Addr) (jc : Nat) (fp fa fw lg : Int) (nb : Nat) (B : Nat → Nat → Int) (ba : Option Addr) (bk : Nat) (w : World) (hn : v.n ≤ 1048576) (hm : v.m ≤ 1048576) (hnb : nb ≤ 1048576) (hpc : v.n ≤ pc) (hpm : pc ≤ maxLen) (hjc : v.m ≤ jc) (hjm : jc ≤ maxLen) (hP : PsAt 0 w pa v.n v.P) (hJ : JsAt 0 w ja v.m v.J) (hps : ∀ i, i < v.n → (v.P i).nm.size ≤ maxLen) (hjs : ∀ i, i < v.m → (v.J i).ne ≤ 1048576 ∧ (v.J i).nm.size ≤ maxLen) (hB : NsAt 2 0 w ba nb B) :
  Calls Tryz.prog 67 #[.agg #[.slice pa v.n pc, .slice ja v.m jc], .agg #[.int .i64 fp, .int .i64 fa, .int .i64 fw, .int .i64 lg, .slice ba nb bk]] w fun e w' => e = .returned (.bool (trainF v fp fa fw lg nb B)) ∧ Below w.heap.size w w' := by
 have S0 : Hid (Below w.heap.size w ((w.alloc (.cells #[.slice pa v.n pc, .slice ja v.m jc] 40)).alloc (.cells #[.int .i64 fp, .int .i64 fa, .int .i64 fw, .int .i64 lg, .slice ba nb bk] 33)) ∧ Box ((w.alloc (.cells #[.slice pa v.n pc, .slice ja v.m jc] 40)).alloc (.cells #[.int .i64 fp, .int .i64 fa, .int .i64 fw, .int .i64 lg, .slice ba nb bk] 33)) w.heap.size 40 #[.slice pa v.n pc, .slice ja v.m jc] ∧ Box ((w.alloc (.cells #[.slice pa v.n pc, .slice ja v.m jc] 40)).alloc (.cells #[.int .i64 fp, .int .i64 fa, .int .i64 fw, .int .i64 lg, .slice ba nb bk] 33)) (w.heap.size + 1) 33 #[.int .i64 fp, .int .i64 fa, .int .i64 fw, .int .i64 lg, .slice ba nb bk]) := ⟨bel2 _ _ _, (Box.new _ _ _).alloc _, by have := Box.new (w.alloc (.cells #[.slice pa v.n pc, .slice ja v.m jc] 40)) 33 #[.int .i64 fp, .int .i64 fa, .int .i64 fw, .int .i64 lg, .slice ba nb bk]; simpa using this⟩
 have HC : Hid (∀ W, Below w.heap.size w W → Calls Tryz.prog 102 #[.agg #[.slice pa v.n pc, .slice ja v.m jc], .agg #[.int .i64 fp, .int .i64 fa, .int .i64 fw, .int .i64 lg, .slice ba nb bk]] W fun e w' => OnR W pa pc ja jc v fp fa fw lg nb ba bk (trainF v fp fa fw lg nb B) e w') := fun W hb => trainOn40 pa pc ja jc fp fa fw lg nb B ba bk W hn hm hnb hpc hpm hjc hjm (hP.mono nr hb nr) (hJ.mono nr hb nr) hps hjs (hB.mono nr hb nr)
 clear hps hjs hP hJ hB
 generalize trainF v fp fa fw lg nb B = R at *
 go_enter Tryz.func67, Tryz.ntmps67
 go_upto_region 1 with fail
 generalize ((w.alloc (.cells #[.slice pa v.n pc, .slice ja v.m jc] 40)).alloc (.cells #[.int .i64 fp, .int .i64 fa, .int .i64 fw, .int .i64 lg, .slice ba nb bk] 33)) = V0 at S0 ⊢
 have n0 := S0.out.2.1.cel 0
 have n1 := S0.out.2.1.cel 1
 have t0 := S0.out.2.2.cel 0
 have t1 := S0.out.2.2.cel 1
 have t2 := S0.out.2.2.cel 2
 have t3 := S0.out.2.2.cel 3
 have t4 := S0.out.2.2.cel 4
 go_wp2_with fail
 clear n0 n1 t0 t1 t2 t3 t4
 refine (HC.out V0 S0.out.1).mono ?_
 rintro e w1 ⟨kp, y0, y1, y2, y3, ya, yn, yc, rfl, hb1, _⟩
 have HE : Hid (Below w.heap.size w w1) := S0.out.1.trans (hb1.mono S0.out.1.size)
 clear hb1 HC S0
 go_wp2_with fail
 go_ret
 exact ⟨rfl, HE.out.alloc HE.out.size _⟩
end Go.Proofs.YtjhmaofjmalglaaGreat
