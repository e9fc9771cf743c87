import Derived.Test.YtjhmaofjmalglaaGreatZaf
import Derived.Test.YtjhmaofjmalglaaGreatZan
namespace Go.Proofs.YtjhmaofjmalglaaGreat
open Go.RowKit
structure Nv where
 n : Nat
 P : Nat → Pc
 m : Nat
 J : Nat → Jt
structure Nv.Ok (v : Nv) : Prop where
 n0 : 0 < v.n
 n1 : v.n ≤ 100
 m1 : v.m ≤ 120
 ln : ∀ i, i < v.n → 1 ≤ (v.P i).ln ∧ (v.P i).ln ≤ 10000000
 kd : ∀ j, j < v.m → 1 ≤ (v.J j).kd ∧ (v.J j).kd ≤ 4 ∧ ((v.J j).ne : Int) = (v.J j).kd
 en : ∀ j, j < v.m → ∀ q, q < (v.J j).ne → 0 ≤ ((v.J j).E q).pc ∧ ((v.J j).E q).pc < v.n ∧ (((v.J j).E q).sd = 0 ∨ ((v.J j).E q).sd = 1)
 stand : ∀ e : En, 0 ≤ e.pc → e.pc < v.n → (e.sd = 0 ∨ e.sd = 1) → ∃ j q, jointAt v.J e v.m = some (j, q) ∧ j < v.m ∧ q < (v.J j).ne ∧ (v.J j).E q = e
 once : ∀ j q j' q', j < v.m → q < (v.J j).ne → j' < v.m → q' < (v.J j').ne → (v.J j).E q = (v.J j').E q' → j = j' ∧ q = q'
def Nv.at (v : Nv) (e : En) : Nat × Nat := (jointAt v.J e v.m).getD (0, 0)
def wayOf (e : En) : Int := if e.sd = 1 then -1 else 1
theorem eqB_iff {x e : En} : eqB x e = true ↔ x = e := by
 obtain ⟨a, b⟩ := x
 obtain ⟨c, d⟩ := e
 simp [eqB]
theorem cntE_one {E : Nat → En} {e : En} {n q : Nat} (hq : q < n) (h : E q = e) : 1 ≤ cntE E e n := by
 induction n with
 | zero => omega
 | succ n ih =>
  simp only [cntE]
  by_cases hn : q = n
  ·
   subst hn
   rw [if_pos (eqB_iff.2 h)]
   omega
  ·
   have := ih (by omega)
   omega
theorem cntE_two {E : Nat → En} {e : En} {n q q' : Nat} (hq : q < q') (hn : q' < n) (h : E q = e) (h' : E q' = e) : 2 ≤ cntE E e n := by
 induction n with
 | zero => omega
 | succ n ih =>
  simp only [cntE]
  by_cases hn : q' = n
  ·
   subst hn
   rw [if_pos (eqB_iff.2 h')]
   have := cntE_one (n := q') hq h
   omega
  ·
   have := ih (by omega)
   omega
theorem cntJ_one {J : Nat → Jt} {e : En} {m j : Nat} (hj : j < m) : cntE (J j).E e (J j).ne ≤ cntJ J e m := by
 induction m with
 | zero => omega
 | succ m ih =>
  simp only [cntJ]
  by_cases hm : j = m
  ·
   subst hm; omega
  ·
   have := ih (by omega)
   omega
theorem cntJ_two {J : Nat → Jt} {e : En} {m j j' : Nat} (hj : j < j') (hm : j' < m) : cntE (J j).E e (J j).ne + cntE (J j').E e (J j').ne ≤ cntJ J e m := by
 induction m with
 | zero => omega
 | succ m ih =>
  simp only [cntJ]
  by_cases hm' : j' = m
  ·
   subst hm'
   have := cntJ_one (J := J) (e := e) (m := j') hj
   omega
  ·
   have := ih (by omega)
   omega
theorem endAt_some {E : Nat → En} {e : En} {n : Nat} (h : 1 ≤ cntE E e n) : ∃ q, endAt E e n = some q ∧ q < n ∧ E q = e := by
 induction n with
 | zero => simp [cntE] at h
 | succ n ih =>
  simp only [cntE] at h
  simp only [endAt, firstB]
  by_cases h1 : 1 ≤ cntE E e n
  ·
   obtain ⟨q, hq, hl, he⟩ := ih h1
   simp only [endAt] at hq
   rw [hq]
   exact ⟨q, rfl, by omega, he⟩
  ·
   have hn : firstB (fun k => eqB (E k) e) n = none := by
    refine firstB_none fun q hq => ?_
    cases hb : eqB (E q) e with
    | false => rfl
    | true => exact absurd (cntE_one hq (eqB_iff.1 hb)) h1
   rw [hn]
   by_cases hb : eqB (E n) e = true
   ·
    exact ⟨n, by simp [hb], by omega, eqB_iff.1 hb⟩
   ·
    simp only [Bool.not_eq_true] at hb
    rw [hb] at h
    simp at h
    omega
theorem jointAt_some {J : Nat → Jt} {e : En} {m : Nat} (h : 1 ≤ cntJ J e m) : ∃ j q, jointAt J e m = some (j, q) ∧ j < m ∧ q < (J j).ne ∧ (J j).E q = e := by
 induction m with
 | zero => simp [cntJ] at h
 | succ m ih =>
  simp only [cntJ] at h
  simp only [jointAt]
  by_cases h1 : 1 ≤ cntJ J e m
  ·
   obtain ⟨j, q, hj, hl, hq, he⟩ := ih h1
   rw [hj]
   exact ⟨j, q, rfl, by omega, hq, he⟩
  ·
   have hn : jointAt J e m = none := by
    refine jointAt_none fun i hi => firstB_none fun q hq => ?_
    cases hb : eqB ((J i).E q) e with
    | false => rfl
    | true =>
     have a := cntE_one hq (eqB_iff.1 hb)
     have b := cntJ_one (J := J) (e := e) hi
     omega
   rw [hn]
   obtain ⟨q, hq, hl, he⟩ := endAt_some (E := (J m).E) (e := e) (n := (J m).ne) (by omega)
   simp only [hq]
   exact ⟨m, q, rfl, by omega, hl, he⟩
theorem netF_all {n : Nat} {P : Nat → Pc} {m : Nat} {J : Nat → Jt} (h : (netF n P m J).1 = 0) : ¬ (n = 0 ∨ 100 < n ∨ 120 < m) ∧ (∀ i, i < n → pieceBad P i = false) ∧ (∀ j, j < m → endsBad n (J j) = false) ∧ ∀ p, p < n → looseBad J m p = false := by
 unfold netF at h
 by_cases h0 : n = 0 ∨ 100 < n ∨ 120 < m
 ·
  rw [if_pos h0] at h; simp at h
 ·
  rw [if_neg h0] at h
  unfold stage2 at h
  cases h2 : firstB (pieceBad P) n with
  | some i => rw [h2] at h; simp at h
  | none =>
   rw [h2] at h
   simp only at h
   unfold stage3 at h
   cases h3 : firstB (fun j => endsBad n (J j)) m with
   | some i => rw [h3] at h; simp at h
   | none =>
    rw [h3] at h
    simp only at h
    unfold stage4 at h
    cases h4 : firstB (nameBad J) m with
    | some i => rw [h4] at h; simp at h
    | none =>
     rw [h4] at h
     simp only at h
     unfold stage5 at h
     cases h5 : firstB (looseBad J m) n with
     | some i => rw [h5] at h; simp at h
     | none => exact ⟨h0, fun i hi => firstB_some h2 hi, fun j hj => firstB_some (p := fun j => endsBad n (J j)) h3 hj, fun p hp => firstB_some h5 hp⟩
theorem nvOk {n : Nat} {P : Nat → Pc} {m : Nat} {J : Nat → Jt} (hn : (netF n P m J).1 = 0) : Nv.Ok ⟨n, P, m, J⟩ := by
 obtain ⟨g0, g1, g2, g3⟩ := netF_all hn
 have gl : ∀ i, i < n → 1 ≤ (P i).ln ∧ (P i).ln ≤ 10000000 := fun i hi => by
  have hb := g1 i hi
  simp only [pieceBad, Bool.or_eq_false_iff, Bool.not_eq_eq_eq_not, Bool.not_false, inB, Bool.and_eq_true, decide_eq_true_eq] at hb
  exact hb.1.1.1.2
 have ge : ∀ j, j < m → inB (J j).kd 1 4 = true ∧ ((J j).ne : Int) = (J j).kd ∧ ∀ q, q < (J j).ne → endB n ((J j).E q) = true := fun j hj => by
  have hb := g2 j hj
  simp only [endsBad, Bool.or_eq_false_iff, Bool.not_eq_eq_eq_not, Bool.not_false, decide_eq_true_eq] at hb
  refine ⟨hb.1.1, hb.1.2, fun q hq => ?_⟩
  cases hx : endB n ((J j).E q)
  ·
   have := allE_false (E := (J j).E) (n := n) hq hx
   rw [hb.2] at this
   exact this.symm
  ·
   rfl
 have gn : ∀ j, j < m → ∀ q, q < (J j).ne → 0 ≤ ((J j).E q).pc ∧ ((J j).E q).pc < n ∧ (((J j).E q).sd = 0 ∨ ((J j).E q).sd = 1) := fun j hj q hq => by
  have := (ge j hj).2.2 q hq
  simp only [endB, inB, Bool.and_eq_true, decide_eq_true_eq] at this
  omega
 have gcnt : ∀ e : En, 0 ≤ e.pc → e.pc < n → (e.sd = 0 ∨ e.sd = 1) → cntJ J e m = 1 := fun e a b c => by
  have hp := g3 e.pc.toNat (by omega)
  simp only [looseBad, Bool.or_eq_false_iff, Bool.not_eq_eq_eq_not, Bool.not_false, decide_eq_true_eq] at hp
  obtain ⟨ep, es⟩ := e
  simp only at a b c hp
  rw [Int.toNat_of_nonneg a] at hp
  rcases c with rfl | rfl
  ·
   exact hp.1
  ·
   exact hp.2
 refine ⟨by show 0 < n; omega, by show n ≤ 100; omega, by show m ≤ 120; omega, gl, fun j hj => ?_, gn, fun e a b c => jointAt_some (by rw [gcnt e a b c]; exact Nat.le_refl _), fun j q j' q' hj hq hj' hq' he => ?_⟩
 ·
  obtain ⟨a, b, _⟩ := ge j hj
  simp only [inB, Bool.and_eq_true, decide_eq_true_eq] at a
  exact ⟨a.1, a.2, b⟩
 ·
  have hj : j < m := hj
  have hq : q < (J j).ne := hq
  have hj' : j' < m := hj'
  have hq' : q' < (J j').ne := hq'
  obtain ⟨a, b, c⟩ := gn j hj q hq
  have hone := gcnt ((J j).E q) a b c
  have he' : (J j).E q = (J j').E q' := he
  have hc1 : 1 ≤ cntE (J j).E ((J j).E q) (J j).ne := cntE_one hq rfl
  have hc2 : 1 ≤ cntE (J j').E ((J j).E q) (J j').ne := cntE_one hq' he'.symm
  have hj1 : j = j' := by
   rcases Nat.lt_trichotomy j j' with hl | hl | hl
   ·
    have := cntJ_two (J := J) (e := (J j).E q) hl hj'; omega
   ·
    exact hl
   ·
    have := cntJ_two (J := J) (e := (J j).E q) hl hj; omega
  subst hj1
  refine ⟨rfl, ?_⟩
  have hb1 := cntJ_one (J := J) (e := (J j).E q) hj
  rcases Nat.lt_trichotomy q q' with hl | hl | hl
  ·
   have := cntE_two (E := (J j).E) hl hq' rfl he'.symm; omega
  ·
   exact hl
  ·
   have := cntE_two (E := (J j).E) hl hq he'.symm rfl; omega
theorem Nv.Ok.there {v : Nv} (h : v.Ok) {e : En} (h0 : 0 ≤ e.pc) (h1 : e.pc < v.n) (h2 : e.sd = 0 ∨ e.sd = 1) :
  ∃ j q, v.at e = (j, q) ∧ jointAt v.J e v.m = some (j, q) ∧ j < v.m ∧ q < (v.J j).ne ∧ (v.J j).E q = e ∧ 1 ≤ (v.J j).kd ∧ (v.J j).kd ≤ 4 ∧ ((v.J j).ne : Int) = (v.J j).kd := by
 obtain ⟨j, q, a, b, c, d⟩ := h.stand e h0 h1 h2
 obtain ⟨k1, k2, k3⟩ := h.kd j b
 exact ⟨j, q, by simp [Nv.at, a], a, b, c, d, k1, k2, k3⟩
end Go.Proofs.YtjhmaofjmalglaaGreat
