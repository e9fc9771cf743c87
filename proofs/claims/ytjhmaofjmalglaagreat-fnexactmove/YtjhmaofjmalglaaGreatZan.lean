import Derived.Test.YtjhmaofjmalglaaGreatZab
import Derived.Test.YtjhmaofjmalglaaGreatZag
import Derived.Test.YtjhmaofjmalglaaGreatZam
import Derived.Deep.RegionWith
namespace Go.Proofs.YtjhmaofjmalglaaGreat
open Go.RowKit
theorem firstB_some {p : Nat → Bool} {n k : Nat} (h : firstB p n = none) (hk : k < n) : p k = false := by
 induction n with
 | zero => omega
 | succ n ih =>
  simp only [firstB] at h
  cases h1 : firstB p n with
  | some i => rw [h1] at h; simp at h
  | none =>
   rw [h1] at h
   by_cases e : k = n
   ·
    subst e
    cases hp : p k with
    | false => rfl
    | true => simp [hp] at h
   ·
    exact ih h1 (by omega)
theorem netF_zero {n : Nat} {P : Nat → Pc} {m : Nat} {J : Nat → Jt} (h : (netF n P m J).1 = 0) : netF n P m J = (0, 0) ∧ ∀ i, i < n → 1 ≤ (P i).ln ∧ (P i).ln ≤ 10000000 := by
 unfold netF at h ⊢
 by_cases h0 : n = 0 ∨ 100 < n ∨ 120 < m
 ·
  rw [if_pos h0] at h; simp at h
 ·
  rw [if_neg h0] at h ⊢
  unfold stage2 at h ⊢
  cases h2 : firstB (pieceBad P) n with
  | some i => rw [h2] at h; simp at h
  | none =>
   rw [h2] at h
   simp only at h ⊢
   refine ⟨?_, fun i hi => ?_⟩
   ·
    unfold stage3 at h ⊢
    cases h3 : firstB (fun j => endsBad n (J j)) m with
    | some i => rw [h3] at h; simp at h
    | none =>
     rw [h3] at h
     simp only at h ⊢
     unfold stage4 at h ⊢
     cases h4 : firstB (nameBad J) m with
     | some i => rw [h4] at h; simp at h
     | none =>
      rw [h4] at h
      simp only at h ⊢
      unfold stage5 at h ⊢
      cases h5 : firstB (looseBad J m) n with
      | some i => rw [h5] at h; simp at h
      | none => rfl
   ·
    have := firstB_some h2 hi
    simp only [pieceBad, Bool.or_eq_false_iff, Bool.not_eq_eq_eq_not, Bool.not_false, inB, Bool.and_eq_true, decide_eq_true_eq] at this
    exact this.1.1.1.2
def IsAt (C : Nat) (w : World) (a : Option Addr) (n : Nat) (D : Nat → Int) : Prop :=
 0 < n → ∃ b off, a = some ⟨b, off, none⟩ ∧ C ≤ b ∧ b < w.heap.size ∧ ∀ i, i < n → w.cell? ⟨b, off + i, none⟩ = some (.int .i64 (D i))
theorem IsAt.keep {C C' : Nat} {w w' : World} {a : Option Addr} {n : Nat} {D : Nat → Int} (h : IsAt C w a n D) (hC : C' ≤ C) (hs : w.heap.size ≤ w'.heap.size)
  (hk : ∀ b, C ≤ b → b < w.heap.size → w'.heap[b]? = w.heap[b]?) : IsAt C' w' a n D := by
 intro h0
 obtain ⟨b, off, ha, hge, hlt, hc⟩ := h h0
 exact ⟨b, off, ha, by omega, by omega, fun i hi => (World.cell?_of_block (w := w) (hk b hge hlt)).trans (hc i hi)⟩
theorem IsAt.mono {C C' : Nat} {w w' : World} {a : Option Addr} {n : Nat} {D : Nat → Int} {B : Nat} (h : IsAt C w a n D) (hC : C' ≤ C) (hb : Below B w w') (hB : w.heap.size ≤ B) : IsAt C' w' a n D :=
 h.keep hC hb.size fun b _ hlt => hb.block b (by omega)
def IsTo (wr : World) (B n k : Nat) (D : Nat → Int) : Prop := ∃ f, wr.rowIs B 3 n f ∧ ∀ j, j < k → f j = .int .i64 (D j)
theorem IsTo.step {w : World} {B n k : Nat} {D : Nat → Int} (h : IsTo w B n k D) : IsTo (w.setCell ⟨B, k, none⟩ (.int .i64 (D k))) B n (k + 1) D := by
 obtain ⟨f, hr, hf⟩ := h
 refine ⟨_, hr.set _ _, fun j hj => ?_⟩
 by_cases e : j = k
 ·
  subst e
  simp
 ·
  simp only [e, if_false]
  exact hf j (by omega)
theorem IsTo.at {w : World} {B n : Nat} {D : Nat → Int} (h : IsTo w B n n D) : IsAt B w (some ⟨B, 0, none⟩) n D := by
 obtain ⟨f, hr, hf⟩ := h
 intro _
 refine ⟨B, 0, rfl, Nat.le_refl _, hr.lt, fun i hi => ?_⟩
 rw [Nat.zero_add, ← hf i hi]
 exact hr.cell (by omega)
theorem info3i : (Tryz.prog.info? 3).map (fun i => (i.zero, i.size, i.bytes)) = some (some (.int .i64 0), 1, 8) := by kernel_rfl
set_option maxHeartbeats 1000000 in
theorem toIntS10 (a : Option Addr) (n cap : Nat) (D : Nat → Int) (w : World) (hn : n ≤ 1048576) (hE : IsAt 0 w a n D) :
  Calls Tryz.prog 9 #[.slice a n cap] w fun e w' => ∃ a', e = .returned (.slice a' n n) ∧ IsAt w.heap.size w' a' n D ∧ Below w.heap.size w w' := by
 have hmk := make_rows (P := Tryz.prog) 26 3 _ 8 1 Tryz.underlying26 info3i n (by omega) (by omega)
 have hf0 : IsTo (w.alloc (.cells (mk0 (.int .i64 0) (n * 1)) 3)) w.heap.size n 0 D := by
  obtain ⟨f0, hf0⟩ := row_mk0 w (.int .i64 0) (n * 1) 3
  rw [Nat.mul_one] at hf0 ⊢
  exact ⟨f0, hf0, fun j hj => absurd hj (Nat.not_lt_zero _)⟩
 go_enter Tryz.func9, Tryz.ntmps9
 go_wp2_with fail
 go_loopw [4] (fun i wr => ∃ (k : Nat), k ≤ n ∧ i = .int .i64 k ∧ IsTo wr w.heap.size n k D ∧ Below w.heap.size w wr) (fun i _ => n - (intOf i).toNat)
 case atStart => exact ⟨0, Nat.zero_le _, rfl, by simpa only [Nat.mul_one] using hf0, bel1 _ _⟩
 case round =>
  obtain ⟨k, hk, rfl, hto, hbel⟩ := hrel
  clear hf0 hmk
  by_cases hlt : k < n
  ·
   obtain ⟨b, off, rfl, _, hb, hc⟩ := (hE.mono (Nat.le_refl _) hbel (Nat.le_refl _)) (by omega)
   have c0 := hc k hlt
   have hR := hto.step
   obtain ⟨f, hr1, _⟩ := hto
   have d0 := hr1.cell (i := k) (by omega)
   have e0 := hr1.frozen k
   clear hc hr1
   go_wp2_with fail
   go_roundw
   case rel => exact ⟨k + 1, by omega, by go_num, hR, hbel.setCell (Nat.le_refl _) _⟩
   case measure => simp [intOf]; omega
  ·
   obtain rfl : k = n := by omega
   go_wp2
   go_ret
   exact ⟨_, rfl, hto.at, hbel⟩
set_option maxHeartbeats 1000000 in
theorem eqIntS13 (a a' : Option Addr) (n cap cap' : Nat) (D : Nat → Int) (w : World) (hn : n ≤ 1048576) (hE : IsAt 0 w a n D) (hE' : IsAt 0 w a' n D) :
  Calls Tryz.prog 14 #[.slice a n cap, .slice a' n cap'] w fun e w' => e = .returned (.bool true) ∧ Below w.heap.size w w' := by
 go_enter Tryz.func14, Tryz.ntmps14
 go_wp2_with fail
 go_loopw [5] (fun i wr => ∃ (k : Nat), k ≤ n ∧ i = .int .i64 k ∧ Below w.heap.size w wr) (fun i _ => n - (intOf i).toNat)
 case atStart => exact ⟨0, Nat.zero_le _, rfl, Below.refl _ _⟩
 case round =>
  obtain ⟨k, hk, rfl, hbel⟩ := hrel
  by_cases hlt : k < n
  ·
   obtain ⟨b, off, rfl, _, hb, hc⟩ := (hE.mono (Nat.le_refl _) hbel (Nat.le_refl _)) (by omega)
   obtain ⟨b', off', rfl, _, hb', hc'⟩ := (hE'.mono (Nat.le_refl _) hbel (Nat.le_refl _)) (by omega)
   have c0 := hc k hlt
   have d0 := hc' k hlt
   have hlt' : (k : Int) < (n : Int) := by omega
   have hk0 : (0 : Int) ≤ (k : Int) := by omega
   clear hc hc'
   go_wp2_with fail
   go_quiet (fail)
   go_wp2_with fail
   go_roundw
   case rel => exact ⟨k + 1, by omega, by go_num, below_drewN hbel _⟩
   case measure => simp [intOf]; omega
  ·
   go_wp2
   go_ret
   exact ⟨rfl, hbel⟩
theorem l22in53 (x a b : Int) (w : World) :
  Calls Tryz.prog 34 #[.int .i64 x, .int .i64 a, .int .i64 b] w fun e w' => e = .returned (.bool (inB x a b)) ∧ w' = w := by
 by_cases h1 : a ≤ x
 ·
  by_cases h2 : x ≤ b
  ·
   go_enter Tryz.func34, Tryz.ntmps34
   go_wp2
   go_ret
   exact ⟨by simp [inB, h1, h2], rfl⟩
  ·
   go_enter Tryz.func34, Tryz.ntmps34
   go_wp2
   go_ret
   exact ⟨by simp [inB, h1, h2], rfl⟩
 ·
  go_enter Tryz.func34, Tryz.ntmps34
  go_wp2
  go_ret
  exact ⟨by simp [inB]; omega, rfl⟩
def mostL (k : Int) : Int := if k = 3 then 2 else 0
set_option maxRecDepth 100000 in
set_option maxHeartbeats 1000000 in
theorem mostLie32 (k : Int) (w : World) :
  Calls Tryz.prog 84 #[kindV k] w fun e w' => e = .returned (.int .i64 (mostL k)) ∧ w' = w := by
 have h5 : k = 1 ∨ k = 2 ∨ k = 3 ∨ k = 4 ∨ (k ≠ 1 ∧ k ≠ 2 ∧ k ≠ 3 ∧ k ≠ 4) := by omega
 rcases h5 with rfl | rfl | rfl | rfl | ⟨h1, h2, h3, h4⟩
 ·
  rw [show kindV 1 = .iface 183 (.agg #[]) from rfl]
  have t1 := ta97_99
  go_enter Tryz.func84, Tryz.ntmps84
  go_wp2_with fail
  go_ret
  exact ⟨rfl, rfl⟩
 ·
  rw [show kindV 2 = .iface 184 (.agg #[]) from rfl]
  have t1 := ta98_99
  go_enter Tryz.func84, Tryz.ntmps84
  go_wp2_with fail
  go_ret
  exact ⟨rfl, rfl⟩
 ·
  rw [show kindV 3 = .iface 182 (.agg #[]) from rfl]
  have t1 := ta99_99
  go_enter Tryz.func84, Tryz.ntmps84
  go_wp2_with fail
  go_ret
  exact ⟨rfl, rfl⟩
 ·
  rw [show kindV 4 = .iface 185 (.agg #[]) from rfl]
  have t1 := ta100_99
  go_enter Tryz.func84, Tryz.ntmps84
  go_wp2_with fail
  go_ret
  exact ⟨rfl, rfl⟩
 ·
  rw [show kindV k = .nilIface by simp [kindV, h1, h2, h3, h4]]
  have t1 := tanil_99
  go_enter Tryz.func84, Tryz.ntmps84
  go_wp2_with fail
  go_ret
  exact ⟨by simp [mostL, h3], rfl⟩
def lieB (J : Nat → Jt) (L : Nat → Int) (i : Nat) : Bool := inB (L i) 0 (mostL (J i).kd)
def allL (p : Nat → Bool) : Nat → Bool
 | 0 => true
 | k + 1 => allL p k && p k
theorem allL_yes {p : Nat → Bool} {n : Nat} (h : ∀ q, q < n → p q = true) : allL p n = true := by
 induction n with
 | zero => rfl
 | succ n ih => simp [allL, ih (fun q hq => h q (by omega)), h n (by omega)]
theorem allL_no {p : Nat → Bool} {n k : Nat} (hk : k < n) (h : p k = false) : allL p n = false := by
 induction n with
 | zero => omega
 | succ n ih =>
  by_cases e : k = n
  ·
   subst e
   simp [allL, h]
  ·
   simp [allL, ih (by omega)]
def liesB (m : Nat) (J : Nat → Jt) (nl : Nat) (L : Nat → Int) : Bool := decide (nl = m) && allL (lieB J L) m
def liesF (n : Nat) (P : Nat → Pc) (m : Nat) (J : Nat → Jt) (nl : Nat) (L : Nat → Int) : Bool := decide ((netF n P m J).1 = 0) && liesB m J nl L
theorem lieB_eq (J : Nat → Jt) (L : Nat → Int) (i : Nat) : lieB J L i = (inB (L i) 0 2 && (decide (L i = 0) || decide ((J i).kd = 3))) := by
 unfold lieB inB mostL
 by_cases h : (J i).kd = 3
 ·
  simp [h]
 ·
  simp only [h, if_false, decide_false, Bool.or_false]
  by_cases h1 : L i = 0
  ·
   simp [h1]
  ·
   simp only [h1, decide_false, Bool.and_false, Bool.and_eq_false_iff, decide_eq_false_iff_not]
   omega
theorem boxN {w wr : World} {pa ja : Option Addr} {n pc m jc : Nat} (h : Below (w.heap.size + 1) (w.alloc (.cells #[.slice pa n pc, .slice ja m jc] 40)) wr) :
  wr.cell? ⟨w.heap.size, 0, none⟩ = some (.slice pa n pc) ∧ wr.cell? ⟨w.heap.size, 1, none⟩ = some (.slice ja m jc) ∧ w.heap.size < wr.heap.size ∧ Below w.heap.size w wr := by
 refine ⟨?_, ?_, ?_, (bel1 w _).trans (h.mono (by simp))⟩
 ·
  rw [h.cell (p := ⟨w.heap.size, 0, none⟩) (by simp)]
  simp
 ·
  rw [h.cell (p := ⟨w.heap.size, 1, none⟩) (by simp)]
  simp
 ·
  have := h.size
  simp at this
  omega
set_option maxHeartbeats 1000000 in
theorem l22ok26 (pa : Option Addr) (n pc : Nat) (P : Nat → Pc) (ja : Option Addr) (m jc : Nat) (J : Nat → Jt) (w : World) (hn : n ≤ 1048576) (hm : m ≤ 1048576) (hP : PsAt 0 w pa n P) (hJ : JsAt 0 w ja m J) (hps : ∀ i, i < n → (P i).nm.size ≤ maxLen) (hjs : ∀ i, i < m → (J i).ne ≤ 1048576 ∧ (J i).nm.size ≤ maxLen) :
  Calls Tryz.prog 76 #[.agg #[.slice pa n pc, .slice ja m jc]] w fun e w' => e = .returned (.bool (decide ((netF n P m J).1 = 0))) ∧ Below w.heap.size w w' := by
 have Hps : Hid (∀ i, i < n → (P i).nm.size ≤ maxLen) := hps
 have Hjs : Hid (∀ i, i < m → (J i).ne ≤ 1048576 ∧ (J i).nm.size ≤ maxLen) := hjs
 clear hps hjs
 go_enter Tryz.func76, Tryz.ntmps76
 go_wp2_with fail
 refine (spec6 pa n pc P ja m jc J _ hn hm (hP.mono (Nat.le_refl _) (bel1 w _) (Nat.le_refl _)) (hJ.mono (Nat.le_refl _) (bel1 w _) (Nat.le_refl _)) Hps.out Hjs.out).mono ?_
 rintro e w1 ⟨rfl, hb1⟩
 have B1 := (bel1 w (.cells #[.slice pa n pc, .slice ja m jc] 40)).trans (hb1.mono (by simp))
 clear hb1
 go_wp2
 go_ret
 exact ⟨rfl, B1.alloc B1.size _⟩
set_option maxRecDepth 100000 in
set_option maxHeartbeats 4000000 in
theorem l22lies27 (pa : Option Addr) (n pc : Nat) (ja : Option Addr) (m jc : Nat) (J : Nat → Jt) (la : Option Addr) (nl lc : Nat) (L : Nat → Int) (w : World) (hm : m ≤ 1048576) (hl : nl ≤ 1048576) (hJ : JsAt 0 w ja m J) (hL : IsAt 0 w la nl L) :
  Calls Tryz.prog 77 #[.agg #[.slice pa n pc, .slice ja m jc], .slice la nl lc] w fun e w' => e = .returned (.bool (liesB m J nl L)) ∧ Below w.heap.size w w' := by
 by_cases hq : nl = m
 ·
  subst hq
  have HB : Hid (liesB nl J nl L = allL (lieB J L) nl) := by
   show liesB nl J nl L = _
   simp [liesB]
  go_enter Tryz.func77, Tryz.ntmps77
  go_wp2_with fail
  go_loopw [15] (fun i wr => ∃ k : Nat, k ≤ nl ∧ i = .int .i64 k ∧ Hid (∀ q, q < k → lieB J L q = true) ∧ Below (w.heap.size + 1) (w.alloc (.cells #[.slice pa n pc, .slice ja nl jc] 40)) wr) (fun i _ => nl - (intOf i).toNat)
  case atStart => exact ⟨0, Nat.zero_le _, rfl, fun j hj => absurd hj (Nat.not_lt_zero _), Below.refl _ _⟩
  case round =>
   obtain ⟨k, hk, rfl, HA, hbel⟩ := hrel
   obtain ⟨z0, z1, zs, hB⟩ := boxN hbel
   by_cases hlt : k < nl
   ·
    obtain ⟨b, off, rfl, _, hb, hc⟩ := (hL.mono (Nat.le_refl _) hB (Nat.le_refl _)) (by omega)
    have c0 := hc k hlt
    clear hc
    obtain ⟨jb, jo, rfl, _, hjb, hjc⟩ := (hJ.mono (Nat.le_refl _) hB (Nat.le_refl _)) (by omega)
    obtain ⟨ea, ec, j0, _, _, _⟩ := hjc k hlt
    clear hjc
    have hk0 : (0 : Int) ≤ (k : Int) := by omega
    have hkn : (k : Int) < (nl : Int) := by omega
    go_wp2_with fail
    refine (l22in53 (L k) 0 2 _).mono ?_
    rintro e w1 ⟨rfl, rfl⟩
    have HNO : Hid (lieB J L k = false → liesB nl J nl L = false) := fun e => by rw [HB.out, allL_no hlt e]
    have HGO : Hid (lieB J L k = true → ∀ q, q < k + 1 → lieB J L q = true) := fun e q hq => by
     by_cases c : q = k
     ·
      subst c
      exact e
     ·
      exact HA.out q (by omega)
    cases h2 : inB (L k) 0 2 with
    | false =>
     have HF := HNO.out (by rw [lieB_eq, h2]; rfl)
     go_wp2_with fail
     go_ret
     exact ⟨by rw [HF] <;> rfl, hB⟩
    | true =>
     by_cases h0 : L k = 0
     ·
      have z : (L k != 0) = false := by simpa using h0
      go_wp2_with fail
      go_roundw
      case rel => exact ⟨k + 1, by omega, by go_num, HGO.out (by rw [lieB_eq, h2]; simp [h0]), hbel⟩
      case measure => simp [intOf]; omega
     ·
      have z : (L k != 0) = true := by simpa using h0
      by_cases h3 : (J k).kd = 3
      ·
       have z3 : ((J k).kd != 3) = false := by simpa using h3
       go_wp2_with fail
       go_roundw
       case rel => exact ⟨k + 1, by omega, by go_num, HGO.out (by rw [lieB_eq, h2]; simp [h3]), hbel⟩
       case measure => simp [intOf]; omega
      ·
       have z3 : ((J k).kd != 3) = true := by simpa using h3
       have HF := HNO.out (by rw [lieB_eq, h2]; simp [h0, h3])
       go_wp2_with fail
       go_ret
       exact ⟨by rw [HF] <;> rfl, hB⟩
   ·
    obtain rfl : k = nl := by omega
    have HF : liesB k J k L = true := by rw [HB.out, allL_yes HA.out]
    go_wp2_with fail
    go_ret
    exact ⟨by rw [HF] <;> rfl, hB⟩
 ·
  have HF : liesB m J nl L = false := by simp [liesB, hq]
  have z : ((nl : Int) != (m : Int)) = true := by simp; omega
  go_enter Tryz.func77, Tryz.ntmps77
  go_wp2_with fail
  go_ret
  exact ⟨by rw [HF] <;> rfl, bel1 _ _⟩
set_option maxHeartbeats 1000000 in
theorem spec8 (pa : Option Addr) (n pc : Nat) (P : Nat → Pc) (ja : Option Addr) (m jc : Nat) (J : Nat → Jt) (la : Option Addr) (nl lc : Nat) (L : Nat → Int) (w : World) (hn : n ≤ 1048576) (hm : m ≤ 1048576) (hl : nl ≤ 1048576) (hP : PsAt 0 w pa n P) (hJ : JsAt 0 w ja m J) (hps : ∀ i, i < n → (P i).nm.size ≤ maxLen) (hjs : ∀ i, i < m → (J i).ne ≤ 1048576 ∧ (J i).nm.size ≤ maxLen) (hL : IsAt 0 w la nl L) :
  Calls Tryz.prog 32 #[.agg #[.slice pa n pc, .slice ja m jc], .slice la nl lc] w fun e w' => e = .returned (.bool (liesF n P m J nl L)) ∧ Below w.heap.size w w' := by
 have Hps : Hid (∀ i, i < n → (P i).nm.size ≤ maxLen) := hps
 have Hjs : Hid (∀ i, i < m → (J i).ne ≤ 1048576 ∧ (J i).nm.size ≤ maxLen) := hjs
 clear hps hjs
 have HF : Hid (liesF n P m J nl L = (decide ((netF n P m J).1 = 0) && liesB m J nl L)) := rfl
 go_enter Tryz.func32, Tryz.ntmps32
 go_wp2_with fail
 refine (l22ok26 pa n pc P ja m jc J _ hn hm (hP.mono (Nat.le_refl _) (bel1 w _) (Nat.le_refl _)) (hJ.mono (Nat.le_refl _) (bel1 w _) (Nat.le_refl _)) Hps.out Hjs.out).mono ?_
 rintro e w1 ⟨he, hb1⟩
 have hbel : Below (w.heap.size + 1) (w.alloc (.cells #[.slice pa n pc, .slice ja m jc] 40)) w1 := hb1.mono (by simp)
 clear hb1
 obtain ⟨z0, z1, zs, hB⟩ := boxN hbel
 by_cases hz : (netF n P m J).1 = 0
 ·
  have HG : Hid (liesF n P m J nl L = liesB m J nl L) := by
   show liesF n P m J nl L = _
   rw [HF.out]
   simp [hz]
  rw [decide_eq_true hz] at he
  subst he
  clear HF hz
  go_wp2_with fail
  refine (l22lies27 pa n pc ja m jc J la nl lc L _ hm hl (hJ.mono (Nat.le_refl _) hB (Nat.le_refl _)) (hL.mono (Nat.le_refl _) hB (Nat.le_refl _))).mono ?_
  rintro e w2 ⟨he, hb2⟩
  subst he
  go_wp2_with fail
  go_ret
  exact ⟨by rw [HG.out] <;> rfl, hB.trans (hb2.mono hB.size)⟩
 ·
  have HG : Hid (liesF n P m J nl L = false) := by
   show liesF n P m J nl L = _
   rw [HF.out]
   simp [hz]
  rw [decide_eq_false hz] at he
  subst he
  clear HF hz
  go_wp2_with fail
  go_ret
  exact ⟨by rw [HG.out] <;> rfl, hB⟩
set_option maxRecDepth 100000 in
set_option maxHeartbeats 4000000 in
theorem impl11 (pa : Option Addr) (n pc : Nat) (P : Nat → Pc) (ja : Option Addr) (m jc : Nat) (J : Nat → Jt) (la : Option Addr) (nl lc : Nat) (L : Nat → Int) (w : World) (hn : n ≤ 1048576) (hm : m ≤ 1048576) (hl : nl ≤ 1048576) (hpc : n ≤ pc) (hpm : pc ≤ maxLen) (hjc : m ≤ jc) (hjm : jc ≤ maxLen) (hP : PsAt 0 w pa n P) (hJ : JsAt 0 w ja m J) (hps : ∀ i, i < n → (P i).nm.size ≤ maxLen) (hjs : ∀ i, i < m → (J i).ne ≤ 1048576 ∧ (J i).nm.size ≤ maxLen) (hL : IsAt 0 w la nl L) :
  Calls Tryz.prog 41 #[.agg #[.slice pa n pc, .slice ja m jc], .slice la nl lc] w fun e w' => e = .returned (.bool (liesF n P m J nl L)) ∧ Below w.heap.size w w' := by
 have Hps : Hid (∀ i, i < n → (P i).nm.size ≤ maxLen) := hps
 have Hjs : Hid (∀ i, i < m → (J i).ne ≤ 1048576 ∧ (J i).nm.size ≤ maxLen) := hjs
 clear hps hjs
 have HF : Hid (liesF n P m J nl L = (decide ((netF n P m J).1 = 0) && liesB m J nl L)) := rfl
 go_enter Tryz.func41, Tryz.ntmps41
 go_wp2_with fail
 refine (impl8 pa n pc P ja m jc J _ hn hm hpc hpm hjc hjm (hP.mono (Nat.le_refl _) (bel1 w _) (Nat.le_refl _)) (hJ.mono (Nat.le_refl _) (bel1 w _) (Nat.le_refl _)) Hps.out Hjs.out).mono ?_
 rintro e w1 ⟨rfl, hb1⟩
 have hbel : Below (w.heap.size + 1) (w.alloc (.cells #[.slice pa n pc, .slice ja m jc] 40)) w1 := hb1.mono (by simp)
 clear hb1
 obtain ⟨z0, z1, zs, hB⟩ := boxN hbel
 by_cases hz0 : (netF n P m J).1 = 0
 ·
  have HG : Hid (liesF n P m J nl L = liesB m J nl L) := by
   show liesF n P m J nl L = _
   rw [HF.out]
   simp [hz0]
  have hz1 := (netF_zero hz0).1
  rw [hz1]
  clear hz0 hz1 HF
  by_cases hq : nl = m
  ·
   subst hq
   have HB : Hid (liesF n P nl J nl L = allL (lieB J L) nl) := by
    show liesF n P nl J nl L = _
    rw [HG.out]
    simp [liesB]
   clear HG
   go_wp2_with fail
   go_loopw [22] (fun i wr => ∃ k : Nat, k ≤ nl ∧ i = .int .i64 k ∧ Hid (∀ q, q < k → lieB J L q = true) ∧ Below (w.heap.size + 1) (w.alloc (.cells #[.slice pa n pc, .slice ja nl jc] 40)) wr) (fun i _ => nl - (intOf i).toNat)
   case atStart => exact ⟨0, Nat.zero_le _, rfl, fun j hj => absurd hj (Nat.not_lt_zero _), hbel⟩
   case round =>
    clear hbel z0 z1 zs hB
    obtain ⟨k, hk, rfl, HA, hbel⟩ := hrel
    obtain ⟨z0, z1, zs, hB⟩ := boxN hbel
    by_cases hlt : k < nl
    ·
     obtain ⟨b, off, rfl, _, hb, hc⟩ := (hL.mono (Nat.le_refl _) hB (Nat.le_refl _)) (by omega)
     have c0 := hc k hlt
     clear hc
     obtain ⟨jb, jo, rfl, _, hjb, hjc⟩ := (hJ.mono (Nat.le_refl _) hB (Nat.le_refl _)) (by omega)
     obtain ⟨ea, ec, j0, j1, j2, _⟩ := hjc k hlt
     clear hjc
     have hk0 : (0 : Int) ≤ (k : Int) := by omega
     have hkn : (k : Int) < (nl : Int) := by omega
     have HNO : Hid (lieB J L k = false → liesF n P nl J nl L = false) := fun e => by rw [HB.out, allL_no hlt e]
     have HGO : Hid (lieB J L k = true → ∀ q, q < k + 1 → lieB J L q = true) := fun e q hq => by
      by_cases c : q = k
      ·
       subst c
       exact e
      ·
       exact HA.out q (by omega)
     have HX : Hid (lieB J L k = inB (L k) 0 (mostL (J k).kd)) := rfl
     have hbel2 : Below (w.heap.size + 1) (w.alloc (.cells #[.slice pa n pc, .slice (some ⟨jb, jo, none⟩) nl jc] 40)) (wr.alloc (.cells #[.int .i64 (J k).kd, .string (J k).nm, .slice ea (J k).ne ec] 132)) := hbel.alloc (by omega) _
     go_wp2_with fail
     go_region_with (first | (go_at_call 85; refine (kindOf44 (J k).kd _).mono ?_; rintro e w2 ⟨rfl, rfl⟩) | (go_at_call 84; refine (mostLie32 (J k).kd _).mono ?_; rintro e w2 ⟨rfl, rfl⟩) | (go_at_call 43; refine (within43 (L k) 0 (mostL (J k).kd) _).mono ?_; rintro e w2 ⟨rfl, rfl⟩))
     all_goals
      cases hv : inB (L k) 0 (mostL (J k).kd) with
      | false =>
       have HFF := HNO.out (by rw [HX.out, hv])
       go_wp2_with fail
       go_ret
       exact ⟨by rw [HFF] <;> rfl, (boxN hbel2.drew).2.2.2⟩
      | true =>
       go_wp2_with fail
       go_roundw
       case rel => exact ⟨k + 1, by omega, by go_num, HGO.out (by rw [HX.out, hv]), hbel2.drew⟩
       case measure => simp [intOf]; omega
    ·
     obtain rfl : k = nl := by omega
     have HFF : liesF n P k J k L = true := by rw [HB.out, allL_yes HA.out]
     go_wp2_with fail
     go_ret
     exact ⟨by rw [HFF] <;> rfl, hB⟩
  ·
   have HFF : liesF n P m J nl L = false := by rw [HG.out]; simp [liesB, hq]
   have z : ((nl : Int) != (m : Int)) = true := by simp; omega
   go_wp2_with fail
   go_ret
   exact ⟨by rw [HFF] <;> rfl, hB⟩
 ·
  have HFF : liesF n P m J nl L = false := by rw [HF.out]; simp [hz0]
  go_wp2_with fail
  go_ret
  exact ⟨by rw [HFF] <;> rfl, hB⟩
end Go.Proofs.YtjhmaofjmalglaaGreat
