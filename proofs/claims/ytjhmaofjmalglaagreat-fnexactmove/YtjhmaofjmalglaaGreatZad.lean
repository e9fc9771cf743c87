import Derived.Test.YtjhmaofjmalglaaGreatZaa
import Derived.Test.YtjhmaofjmalglaaGreatZac
namespace Go.Proofs.YtjhmaofjmalglaaGreat
open Go.RowKit
def endB (n : Nat) (e : En) : Bool := inB e.pc 0 ((n : Int) - 1) && inB e.sd 0 1
set_option maxHeartbeats 1000000 in
theorem l11end39 (pa : Option Addr) (n pc : Nat) (ja : Option Addr) (m jc : Nat) (e : En) (w : World) (hn : n ≤ 1048576) :
  Calls Tryz.prog 148 #[.agg #[.slice pa n pc, .slice ja m jc], .agg #[.int .i64 e.pc, .int .i64 e.sd]] w fun r w' => r = .returned (.bool (endB n e)) ∧ Below w.heap.size w w' := by
 cases h1 : inB e.pc 0 ((n : Int) - 1)
 ·
  go_enter Tryz.func148, Tryz.ntmps148
  go_wp2_with fail
  refine (in19 _ _ _ _).mono ?_
  rintro r w1 ⟨rfl, rfl⟩
  go_wp2_with fail
  go_ret
  exact ⟨by simp [endB, h1], bel2 _ _ _⟩
 ·
  go_enter Tryz.func148, Tryz.ntmps148
  go_wp2_with fail
  refine (in19 _ _ _ _).mono ?_
  rintro r w1 ⟨rfl, rfl⟩
  go_wp2_with fail
  refine (in19 _ _ _ _).mono ?_
  rintro r w1 ⟨rfl, rfl⟩
  go_wp2_with fail
  go_ret
  exact ⟨by simp [endB, h1], bel2 _ _ _⟩
def eqB (x e : En) : Bool := x.pc == e.pc && x.sd == e.sd
def cntE (E : Nat → En) (e : En) : Nat → Nat
 | 0 => 0
 | k + 1 => cntE E e k + if eqB (E k) e then 1 else 0
def cntJ (J : Nat → Jt) (e : En) : Nat → Nat
 | 0 => 0
 | k + 1 => cntJ J e k + cntE (J k).E e (J k).ne
theorem cnt_yes {E : Nat → En} {e : En} {q : Nat} (h1 : (E q).pc = e.pc) (h2 : (E q).sd = e.sd) : cntE E e (q + 1) = cntE E e q + 1 := by simp [cntE, eqB, h1, h2]
theorem cnt_no1 {E : Nat → En} {e : En} {q : Nat} (h1 : ¬ (E q).pc = e.pc) : cntE E e (q + 1) = cntE E e q := by simp [cntE, eqB, h1]
theorem cnt_no2 {E : Nat → En} {e : En} {q : Nat} (h1 : ¬ (E q).sd = e.sd) : cntE E e (q + 1) = cntE E e q := by simp [cntE, eqB, h1]
theorem cntE_le (E : Nat → En) (e : En) (k : Nat) : cntE E e k ≤ k := by
 induction k with
 | zero => simp [cntE]
 | succ k ih => simp only [cntE]; split <;> omega
theorem cntJ_le (J : Nat → Jt) (e : En) (k : Nat) (h : ∀ i, i < k → (J i).ne ≤ 1048576) : cntJ J e k ≤ k * 1048576 := by
 induction k with
 | zero => simp [cntJ]
 | succ k ih =>
  have h1 := ih (fun i hi => h i (by omega))
  have h2 := cntE_le (J k).E e (J k).ne
  have h3 := h k (by omega)
  simp only [cntJ]
  omega
set_option maxHeartbeats 1000000 in
theorem l11uses21 (pa : Option Addr) (n pc : Nat) (ja : Option Addr) (m jc : Nat) (J : Nat → Jt) (e : En) (w : World) (hm : m ≤ 1048576) (hJ : JsAt 0 w ja m J) (hne : ∀ i, i < m → (J i).ne ≤ 1048576) :
  Calls Tryz.prog 141 #[.agg #[.slice pa n pc, .slice ja m jc], .agg #[.int .i64 e.pc, .int .i64 e.sd]] w fun r w' => r = .returned (.int .i64 (cntJ J e m)) ∧ Below w.heap.size w w' := by
 have Hne : Hid (∀ i, i < m → (J i).ne ≤ 1048576) := hne
 clear hne
 go_enter Tryz.func141, Tryz.ntmps141
 go_wp2_with fail
 go_loopw [5, 13] (fun c i wr => ∃ k : Nat, k ≤ m ∧ i = .int .i64 k ∧ c = .int .i64 (cntJ J e k) ∧ Below (w.heap.size + 1 + 1) ((w.alloc (.cells #[.slice pa n pc, .slice ja m jc] 40)).alloc (.cells #[.int .i64 e.pc, .int .i64 e.sd] 76)) wr) (fun _ i _ => m - (intOf i).toNat)
 case atStart => exact ⟨0, Nat.zero_le _, rfl, rfl, Below.refl _ _⟩
 case round =>
  obtain ⟨k, hk, rfl, rfl, hbel⟩ := hrel
  have hB : Below w.heap.size w wr := (bel2 w _ _).trans (hbel.mono (by omega))
  by_cases hlt : k < m
  ·
   obtain ⟨b, off, rfl, _, hb, hc⟩ := (hJ.mono (Nat.le_refl _) hB (Nat.le_refl _)) (by omega)
   obtain ⟨ea, ec, c0, c1, c2, hE⟩ := hc k hlt
   have hnk := Hne.out k hlt
   have hcl := cntJ_le J e k (fun i hi => Hne.out i (by omega))
   have HCS : Hid (cntJ J e (k + 1) = cntJ J e k + cntE (J k).E e (J k).ne) := rfl
   have z1 : wr.cell? ⟨w.heap.size + 1, 0, none⟩ = some (.int .i64 e.pc) := by rw [hbel.cell (by show w.heap.size + 1 < _; omega)]; simp
   have z2 : wr.cell? ⟨w.heap.size + 1, 1, none⟩ = some (.int .i64 e.sd) := by rw [hbel.cell (by show w.heap.size + 1 < _; omega)]; simp
   have zs : w.heap.size + 1 + 1 ≤ wr.heap.size := by have := hbel.size; simpa using this
   clear hc
   generalize hcv : cntJ J e k = cv at *
   have Hcv : Hid (cntJ J e k = cv) := hcv
   clear hcv
   go_wp2_with fail
   obtain ⟨wo, hwo⟩ : ∃ wo : World, wo = wr := ⟨_, rfl⟩
   subst hwo
   go_loopw [5, 20] (fun c i wr => ∃ q : Nat, q ≤ (J k).ne ∧ i = .int .i64 q ∧ c = .int .i64 ((cv + cntE (J k).E e q : Nat) : Int) ∧ Below wo.heap.size wo wr) (fun _ i _ => (J k).ne - (intOf i).toNat)
   case atStart => exact ⟨0, Nat.zero_le _, rfl, rfl, (Below.refl _ _).alloc (Nat.le_refl _) _⟩
   case round =>
    obtain ⟨q, hq, rfl, rfl, hbel2⟩ := hrel
    by_cases hlq : q < (J k).ne
    ·
     obtain ⟨b2, off2, rfl, _, hb2, hc2⟩ := (hE.mono (Nat.le_refl _) hbel2 (Nat.le_refl _)) (by omega)
     obtain ⟨d0, d1⟩ := hc2 q hlq
     clear hc2
     have y1 : wr.cell? ⟨w.heap.size + 1, 0, none⟩ = some (.int .i64 e.pc) := by rw [hbel2.cell (by show w.heap.size + 1 < _; omega)]; exact z1
     have y2 : wr.cell? ⟨w.heap.size + 1, 1, none⟩ = some (.int .i64 e.sd) := by rw [hbel2.cell (by show w.heap.size + 1 < _; omega)]; exact z2
     have hcq := cntE_le (J k).E e q
     have hz3 : w.heap.size + 1 < wr.heap.size := by have := hbel2.size; omega
     go_wp2_with fail
     all_goals
      go_roundw
      case rel =>
       first
        | exact ⟨q + 1, by omega, by go_num, by rw [cnt_yes (by assumption) (by assumption)]; go_num, hbel2.alloc hbel2.size _⟩
        | exact ⟨q + 1, by omega, by go_num, by rw [cnt_no2 (by assumption)]; go_num, hbel2.alloc hbel2.size _⟩
        | exact ⟨q + 1, by omega, by go_num, by rw [cnt_no1 (by assumption)]; go_num, hbel2.alloc hbel2.size _⟩
      case measure => simp [intOf]; omega
    ·
     obtain rfl : q = (J k).ne := by omega
     go_wp2_with fail
     go_roundw
     case rel => exact ⟨k + 1, by omega, by go_num, by rw [HCS.out], hbel.trans (hbel2.mono zs)⟩
     case measure => simp [intOf]; omega
  ·
   obtain rfl : k = m := by omega
   go_wp2_with fail
   go_ret
   exact ⟨rfl, hB⟩
end Go.Proofs.YtjhmaofjmalglaaGreat
namespace Go.Proofs.YtjhmaofjmalglaaGreat
open Go.RowKit
def allE (n : Nat) (E : Nat → En) : Nat → Bool
 | 0 => true
 | k + 1 => allE n E k && endB n (E k)
theorem allE_true {n : Nat} {E : Nat → En} {k : Nat} (h : ∀ q, q < k → endB n (E q) = true) : allE n E k = true := by
 induction k with
 | zero => rfl
 | succ k ih => simp [allE, ih (fun q hq => h q (by omega)), h k (by omega)]
theorem allE_false {n : Nat} {E : Nat → En} {k q : Nat} (hq : q < k) (h : endB n (E q) = false) : allE n E k = false := by
 induction k with
 | zero => omega
 | succ k ih =>
  by_cases e : q = k
  ·
   subst e; simp [allE, h]
  ·
   simp [allE, ih (by omega)]
def dupN (N : Nat → ByteArray) (s : ByteArray) : Nat → Bool
 | 0 => false
 | k + 1 => dupN N s k || ((N k).toList == s.toList)
theorem dupN_true {N : Nat → ByteArray} {s : ByteArray} {k q : Nat} (hq : q < k) (h : ((N q).toList == s.toList) = true) : dupN N s k = true := by
 induction k with
 | zero => omega
 | succ k ih =>
  by_cases e : q = k
  ·
   subst e; simp [dupN, h]
  ·
   simp [dupN, ih (by omega)]
theorem dupN_false {N : Nat → ByteArray} {s : ByteArray} {k : Nat} (h : ∀ q, q < k → ((N q).toList == s.toList) = false) : dupN N s k = false := by
 induction k with
 | zero => rfl
 | succ k ih => simp [dupN, ih (fun q hq => h q (by omega)), h k (by omega)]
def firstB (p : Nat → Bool) : Nat → Option Nat
 | 0 => none
 | k + 1 => match firstB p k with
  | some i => some i
  | none => if p k then some k else none
theorem firstB_none {p : Nat → Bool} {n : Nat} (h : ∀ q, q < n → p q = false) : firstB p n = none := by
 induction n with
 | zero => rfl
 | succ n ih => simp [firstB, ih (fun q hq => h q (by omega)), h n (by omega)]
theorem firstB_hit {p : Nat → Bool} {n k : Nat} (h : ∀ q, q < k → p q = false) (hk : k < n) (hp : p k = true) : firstB p n = some k := by
 induction n with
 | zero => omega
 | succ n ih =>
  by_cases e : k = n
  ·
   subst e; simp [firstB, firstB_none h, hp]
  ·
   simp [firstB, ih (by omega)]
def endsBad (n : Nat) (j : Jt) : Bool := !(inB j.kd 1 4) || !(decide ((j.ne : Int) = j.kd)) || !(allE n j.E j.ne)
def nameBad (J : Nat → Jt) (i : Nat) : Bool := if (J i).kd < 3 then !(J i).nm.toList.isEmpty else !(nameB (J i).nm) || dupN (fun k => (J k).nm) (J i).nm i
def pieceBad (P : Nat → Pc) (i : Nat) : Bool := !(nameB (P i).nm) || !(inB (P i).ln 1 10000000) || !(inB (P i).sp 1 10000) || !(inB (P i).br 1 1000) || dupN (fun k => (P k).nm) (P i).nm i
def looseBad (J : Nat → Jt) (m p : Nat) : Bool := !(decide (cntJ J ⟨p, 0⟩ m = 1)) || !(decide (cntJ J ⟨p, 1⟩ m = 1))
def jcode (n : Nat) (J : Nat → Jt) (i : Nat) : Int := if endsBad n (J i) then 3 else if nameBad J i then 4 else 0
def stage5 (n m : Nat) (J : Nat → Jt) : Int × Int := match firstB (looseBad J m) n with
 | some p => (5, p)
 | none => (0, 0)
def stage4 (n m : Nat) (J : Nat → Jt) : Int × Int := match firstB (nameBad J) m with
 | some j => (4, j)
 | none => stage5 n m J
def stage3 (n m : Nat) (J : Nat → Jt) : Int × Int := match firstB (fun j => endsBad n (J j)) m with
 | some j => (3, j)
 | none => stage4 n m J
def stage2 (n : Nat) (P : Nat → Pc) (m : Nat) (J : Nat → Jt) : Int × Int := match firstB (pieceBad P) n with
 | some p => (2, p)
 | none => stage3 n m J
def netF (n : Nat) (P : Nat → Pc) (m : Nat) (J : Nat → Jt) : Int × Int := if n = 0 ∨ 100 < n ∨ 120 < m then (1, 0) else stage2 n P m J
end Go.Proofs.YtjhmaofjmalglaaGreat
