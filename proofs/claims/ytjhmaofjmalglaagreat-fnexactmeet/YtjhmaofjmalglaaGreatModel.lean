import Derived.Test.YtjhmaofjmalglaaGreatName
import Derived.Test.YtjhmaofjmalglaaGreatUses
namespace Go.Proofs.YtjhmaofjmalglaaGreat
open Go.RowKit

def allE (n : Nat) (E : Nat → En) : Nat → Bool
  | 0 => true
  | k + 1 => allE n E k && endB n (E k)
theorem allE_true {n : Nat} {E : Nat → En} {k : Nat} (h : ∀ q, q < k → endB n (E q) = true) : allE n E k = true := by
  induction k with
  | zero => rfl
  | succ k ih => simp [allE, ih (fun q hq => h q (by omega)), h k (by omega)]
theorem allE_false {n : Nat} {E : Nat → En} {k q : Nat} (hq : q < k) (h : endB n (E q) = false) : allE n E k = false := by
  induction k with
  | zero => omega
  | succ k ih =>
    by_cases e : q = k
    · subst e; simp [allE, h]
    · simp [allE, ih (by omega)]

def dupN (N : Nat → ByteArray) (s : ByteArray) : Nat → Bool
  | 0 => false
  | k + 1 => dupN N s k || ((N k).toList == s.toList)
theorem dupN_true {N : Nat → ByteArray} {s : ByteArray} {k q : Nat} (hq : q < k) (h : ((N q).toList == s.toList) = true) : dupN N s k = true := by
  induction k with
  | zero => omega
  | succ k ih =>
    by_cases e : q = k
    · subst e; simp [dupN, h]
    · simp [dupN, ih (by omega)]
theorem dupN_false {N : Nat → ByteArray} {s : ByteArray} {k : Nat} (h : ∀ q, q < k → ((N q).toList == s.toList) = false) : dupN N s k = false := by
  induction k with
  | zero => rfl
  | succ k ih => simp [dupN, ih (fun q hq => h q (by omega)), h k (by omega)]

def firstB (p : Nat → Bool) : Nat → Option Nat
  | 0 => none
  | k + 1 => match firstB p k with
    | some i => some i
    | none => if p k then some k else none
theorem firstB_none {p : Nat → Bool} {n : Nat} (h : ∀ q, q < n → p q = false) : firstB p n = none := by
  induction n with
  | zero => rfl
  | succ n ih => simp [firstB, ih (fun q hq => h q (by omega)), h n (by omega)]
theorem firstB_hit {p : Nat → Bool} {n k : Nat} (h : ∀ q, q < k → p q = false) (hk : k < n) (hp : p k = true) : firstB p n = some k := by
  induction n with
  | zero => omega
  | succ n ih =>
    by_cases e : k = n
    · subst e; simp [firstB, firstB_none h, hp]
    · simp [firstB, ih (by omega)]

def endsBad (n : Nat) (j : Jt) : Bool := !(inB j.kd 1 4) || !(decide ((j.ne : Int) = j.kd)) || !(allE n j.E j.ne)
def nameBad (J : Nat → Jt) (i : Nat) : Bool := if (J i).kd < 3 then !(J i).nm.toList.isEmpty else !(nameB (J i).nm) || dupN (fun k => (J k).nm) (J i).nm i
def pieceBad (P : Nat → Pc) (i : Nat) : Bool := !(nameB (P i).nm) || !(inB (P i).ln 1 10000000) || !(inB (P i).sp 1 10000) || !(inB (P i).br 1 1000) || dupN (fun k => (P k).nm) (P i).nm i
def looseBad (J : Nat → Jt) (m p : Nat) : Bool := !(decide (cntJ J ⟨p, 0⟩ m = 1)) || !(decide (cntJ J ⟨p, 1⟩ m = 1))
def jcode (n : Nat) (J : Nat → Jt) (i : Nat) : Int := if endsBad n (J i) then 3 else if nameBad J i then 4 else 0

def stage5 (n m : Nat) (J : Nat → Jt) : Int × Int := match firstB (looseBad J m) n with
  | some p => (5, p)
  | none => (0, 0)
def stage4 (n m : Nat) (J : Nat → Jt) : Int × Int := match firstB (nameBad J) m with
  | some j => (4, j)
  | none => stage5 n m J
def stage3 (n m : Nat) (J : Nat → Jt) : Int × Int := match firstB (fun j => endsBad n (J j)) m with
  | some j => (3, j)
  | none => stage4 n m J
def stage2 (n : Nat) (P : Nat → Pc) (m : Nat) (J : Nat → Jt) : Int × Int := match firstB (pieceBad P) n with
  | some p => (2, p)
  | none => stage3 n m J
def netF (n : Nat) (P : Nat → Pc) (m : Nat) (J : Nat → Jt) : Int × Int := if n = 0 ∨ 100 < n ∨ 120 < m then (1, 0) else stage2 n P m J

end Go.Proofs.YtjhmaofjmalglaaGreat
