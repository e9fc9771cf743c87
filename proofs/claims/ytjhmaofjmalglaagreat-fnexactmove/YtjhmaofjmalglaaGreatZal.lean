import Derived.Test.YtjhmaofjmalglaaGreatZah
import Derived.Test.YtjhmaofjmalglaaGreatZaj
import Derived.Deep.OwnRows
namespace Go.Proofs.YtjhmaofjmalglaaGreat
open Go.RowKit
def Z90 : Array Value := Array.replicate 200 (.int .i64 0)
theorem zero90 (w : World) : (zeroValue 211).run Tryz.prog w = .ok (.agg Z90) w := by kernel_rfl
def eOf (i : Nat) : En := ⟨((i / 2 : Nat) : Int), ((i % 2 : Nat) : Int)⟩
def cur (J : Nat → Jt) (k q i : Nat) : Nat := cntJ J (eOf i) k + cntE (J k).E (eOf i) q
def Rw (w : World) (B : Nat) (J : Nat → Jt) (k q : Nat) : Prop := w.rowIs B 211 200 (fun i => .int .i64 (cur J k q i))
theorem rw_start (w : World) (J : Nat → Jt) : Rw (w.alloc (.cells Z90 211)) w.heap.size J 0 0 := by
 have h := World.rowIs_alloc w Z90 211 (fun i => .int .i64 (cur J 0 0 i)) (fun i hi => by
  have : i < 200 := by simpa [Z90] using hi
  simp [Z90, this, cur, cntJ, cntE])
 have e : Z90.size = 200 := by simp [Z90]
 rw [e] at h
 exact h
theorem cur_next (J : Nat → Jt) (k i : Nat) : cur J k (J k).ne i = cur J (k + 1) 0 i := by simp [cur, cntJ, cntE]
theorem rw_next {w : World} {B : Nat} {J : Nat → Jt} {k : Nat} (h : Rw w B J k (J k).ne) : Rw w B J (k + 1) 0 := by
 refine World.rowIs.congr h fun i _ => ?_
 rw [cur_next]
theorem cur_le {J : Nat → Jt} {k q i : Nat} (h : ∀ i, i < k → (J i).ne ≤ 1048576) (hk : k ≤ 120) (hq : q ≤ 1048576) : cur J k q i ≤ 126877696 := by
 have h1 := cntJ_le J (eOf i) k h
 have h2 := cntE_le (J k).E (eOf i) q
 unfold cur
 omega
theorem cur_step {J : Nat → Jt} {k q p s : Nat} (hp : ((J k).E q).pc = (p : Int)) (hs : ((J k).E q).sd = (s : Int)) (hs2 : s < 2) (i : Nat) : cur J k (q + 1) i = if i = p * 2 + s then cur J k q i + 1 else cur J k q i := by
 unfold cur
 by_cases e : i = p * 2 + s
 ·
  rw [if_pos e, cnt_yes (by rw [hp]; simp only [eOf]; omega) (by rw [hs]; simp only [eOf]; omega)]
  omega
 ·
  rw [if_neg e]
  by_cases e1 : i / 2 = p
  ·
   rw [cnt_no2 (by rw [hs]; simp only [eOf]; omega)]
  ·
   rw [cnt_no1 (by rw [hp]; simp only [eOf]; omega)]
theorem rw_step {w : World} {B : Nat} {J : Nat → Jt} {k q p s : Nat} (h : Rw w B J k q) (hp : ((J k).E q).pc = (p : Int)) (hs : ((J k).E q).sd = (s : Int)) (hs2 : s < 2) :
  Rw (w.setCell ⟨B, p * 2 + s, none⟩ (.int .i64 ((cur J k q (p * 2 + s) : Int) + 1))) B J k (q + 1) := by
 refine World.rowIs.congr (World.rowIs.set h _ _) fun i _ => ?_
 rw [cur_step hp hs hs2]
 by_cases e : i = p * 2 + s
 ·
  subst e; simp
 ·
  simp [e]
set_option maxRecDepth 100000 in
set_option maxHeartbeats 2000000 in
theorem loose27 (pa : Option Addr) (n pc : Nat) (ja : Option Addr) (m jc : Nat) (J : Nat → Jt) (w : World) (hn : n ≤ 100) (hm : m ≤ 120) (hJ : JsAt 0 w ja m J) (hne : ∀ i, i < m → (J i).ne ≤ 1048576) (hok : ∀ i, i < m → ∀ q, q < (J i).ne → endB n ((J i).E q) = true) :
  Calls Tryz.prog 124 #[.agg #[.slice pa n pc, .slice ja m jc]] w fun r w' => r = .returned (.agg #[.int .i64 (stage5 n m J).1, .int .i64 (stage5 n m J).2]) ∧ Below w.heap.size w w' := by
 have Hne : Hid (∀ i, i < m → (J i).ne ≤ 1048576) := hne
 have Hok : Hid (∀ i, i < m → ∀ q, q < (J i).ne → endB n ((J i).E q) = true) := hok
 clear hne hok
 have hz := zero90
 have hst : Rw ((X6 w pa n pc ja m jc).alloc (.cells Z90 211)) (w.heap.size + 1 + 1) J 0 0 := by
  have h := rw_start (X6 w pa n pc ja m jc) J
  rw [show (X6 w pa n pc ja m jc).heap.size = w.heap.size + 1 + 1 by simp [X6]] at h
  exact h
 have hbst : Below (w.heap.size + 1 + 1) (X6 w pa n pc ja m jc) ((X6 w pa n pc ja m jc).alloc (.cells Z90 211)) := (Below.refl _ _).alloc (by simp [X6]) _
 unfold X6 at hst hbst
 go_enter Tryz.func124, Tryz.ntmps124
 go_wp2_with fail
 go_loopw [12] (fun i wr => ∃ k : Nat, k ≤ m ∧ i = .int .i64 k ∧ Rw wr (w.heap.size + 1 + 1) J k 0 ∧ Below (w.heap.size + 1 + 1) (X6 w pa n pc ja m jc) wr) (fun i _ => m - (intOf i).toNat)
 case atStart => exact ⟨0, Nat.zero_le _, rfl, hst, hbst⟩
 case round =>
  obtain ⟨k, hk, rfl, hrow, hbel⟩ := hrel
  clear hst hbst hz
  obtain ⟨z0, z1, y0, y1, r0, r1, f0, f1, hB⟩ := facts6 hbel
  by_cases hlt : k < m
  ·
   obtain ⟨b, off, rfl, _, hb, hc⟩ := hJ (by omega)
   obtain ⟨ea, ec, c0', c1', c2', hE⟩ := hc k hlt
   have c0 := (hB.cell (p := ⟨b, off + k * 3, none⟩) hb).trans c0'
   have c1 := (hB.cell (p := ⟨b, off + k * 3 + 1, none⟩) hb).trans c1'
   have c2 := (hB.cell (p := ⟨b, off + k * 3 + 2, none⟩) hb).trans c2'
   have hnk := Hne.out k hlt
   clear hc c0' c1' c2'
   go_wp2_with fail
   clear z0 z1 y0 y1 r0 r1 f0 f1 c0 c1 c2
   obtain ⟨wo, hwo⟩ : ∃ wo : World, wo = wr := ⟨_, rfl⟩
   subst hwo
   go_loopw [19] (fun i wr => ∃ q : Nat, q ≤ (J k).ne ∧ i = .int .i64 q ∧ Rw wr (w.heap.size + 1 + 1) J k q ∧ Below (w.heap.size + 1 + 1) (X6 w pa n pc (some ⟨b, off, none⟩) m jc) wr) (fun i _ => (J k).ne - (intOf i).toNat)
   case atStart => exact ⟨0, Nat.zero_le _, rfl, hrow.alloc _, hbel.alloc (by have := hrow.lt; omega) _⟩
   case round =>
    obtain ⟨q, hq, rfl, hrow2, hbel2⟩ := hrel
    clear hB
    have hB : Below w.heap.size w wr := (facts6 hbel2).hB
    by_cases hlq : q < (J k).ne
    ·
     obtain ⟨b2, off2, rfl, _, hb2, hc2⟩ := (hE.mono (Nat.le_refl _) hB (Nat.le_refl _)) (by omega)
     obtain ⟨d0, d1⟩ := hc2 q hlq
     clear hc2
     have hk1 := Hok.out k hlt q hlq
     have hk2 : 0 ≤ ((J k).E q).pc ∧ ((J k).E q).pc ≤ (n : Int) - 1 ∧ 0 ≤ ((J k).E q).sd ∧ ((J k).E q).sd ≤ 1 := by
      simp only [endB, inB, Bool.and_eq_true, decide_eq_true_eq] at hk1
      omega
     clear hk1
     obtain ⟨p, hp⟩ : ∃ p : Nat, ((J k).E q).pc = (p : Int) := ⟨((J k).E q).pc.toNat, by omega⟩
     obtain ⟨s, hs⟩ : ∃ s : Nat, ((J k).E q).sd = (s : Int) := ⟨((J k).E q).sd.toNat, by omega⟩
     have hp0 : (0 : Int) ≤ (p : Int) := by omega
     have hp1 : (p : Int) < 100 := by omega
     have hs0 : (0 : Int) ≤ (s : Int) := by omega
     have hs1 : (s : Int) < 2 := by omega
     have hR := rw_step hrow2 hp hs (by omega)
     have g0 := hrow2.cell (i := p * 2 + s) (by omega)
     have g1 := hrow2.frozen (p * 2 + s)
     have hlt2 := hrow2.lt
     have hcl := cur_le (J := J) (k := k) (q := q) (i := p * 2 + s) (fun i hi => Hne.out i (by omega)) (by omega) (by omega)
     rw [hp] at d0
     rw [hs] at d1
     clear hk2 hp hs
     generalize cur J k q (p * 2 + s) = cv at *
     go_wp2_with fail
     go_region
     go_wp2_with fail
     go_roundw
     case rel => exact ⟨q + 1, by omega, by go_num, (hR.alloc _).drew, ((hbel2.setCell (p := ⟨w.heap.size + 1 + 1, p * 2 + s, none⟩) (by show w.heap.size + 1 + 1 ≤ w.heap.size + 1 + 1; omega) _).alloc (by have := size_set wr ⟨w.heap.size + 1 + 1, p * 2 + s, none⟩ (.int .i64 ((cv : Int) + 1)); omega) _).drew⟩
     case measure => simp [intOf]; omega
    ·
     obtain rfl : q = (J k).ne := by omega
     have hR := rw_next hrow2
     go_wp2_with fail
     go_roundw
     case rel => exact ⟨k + 1, by omega, by go_num, hR, hbel2⟩
     case measure => simp [intOf]; omega
  ·
   obtain rfl : k = m := by omega
   go_wp2_with fail
   clear z0 z1 y0 y1 r0 r1 f0 f1
   obtain ⟨wo, hwo⟩ : ∃ wo : World, wo = wr := ⟨_, rfl⟩
   subst hwo
   go_loopw [38] (fun i wr => ∃ p : Nat, p ≤ n ∧ i = .int .i64 p ∧ Hid (∀ q, q < p → looseBad J k q = false) ∧ wr = wo) (fun i _ => n - (intOf i).toNat)
   case atStart => exact ⟨0, Nat.zero_le _, rfl, fun j hj => absurd hj (Nat.not_lt_zero _), rfl⟩
   case round =>
    obtain ⟨p, hp, rfl, hall, hwr⟩ := hrel
    subst hwr
    by_cases hlp : p < n
    ·
     have g0 := hrow.cell (i := p * 2) (by omega)
     have g1 := hrow.cell (i := p * 2 + 1) (by omega)
     have e0 : cur J k 0 (p * 2) = cntJ J ⟨(p : Int), 0⟩ k := by
      have h1 : p * 2 / 2 = p := by omega
      have h2 : p * 2 % 2 = 0 := by omega
      simp [cur, cntE, eOf, h1, h2]
     have e1 : cur J k 0 (p * 2 + 1) = cntJ J ⟨(p : Int), 1⟩ k := by
      have h1 : (p * 2 + 1) / 2 = p := by omega
      have h2 : (p * 2 + 1) % 2 = 1 := by omega
      simp [cur, cntE, eOf, h1, h2]
     rw [e0] at g0
     rw [e1] at g1
     clear e0 e1
     obtain ⟨z0, z1, y0, y1, r0, r1, f0, f1, hB⟩ := facts6 hbel
     have hp0 : (0 : Int) ≤ (p : Int) := by omega
     have hp1 : (p : Int) < 100 := by omega
     have heq := eq89
     by_cases hgood : cntJ J ⟨(p : Int), 0⟩ k = 1 ∧ cntJ J ⟨(p : Int), 1⟩ k = 1
     ·
      have Hall : Hid (∀ q, q < p + 1 → looseBad J k q = false) := snoc_all hall.out (by simp [looseBad, hgood.1, hgood.2])
      have hbb : ((((cntJ J ⟨(p : Int), 0⟩ k : Nat) : Int) == 1) && (((cntJ J ⟨(p : Int), 1⟩ k : Nat) : Int) == 1)) = true := by simp [hgood.1, hgood.2]
      rw [hgood.1] at g0
      rw [hgood.2] at g1
      clear hgood hall hbb
      go_wp2_with fail
      go_roundw
      case rel => exact ⟨p + 1, by omega, by go_num, Hall, trivial⟩
      case measure => simp [intOf]; omega
     ·
      have Hv : Hid (stage5 n k J = (5, (p : Int))) := s5_hit hlp hall.out (by
       simp only [looseBad]
       by_cases h1 : cntJ J ⟨(p : Int), 0⟩ k = 1
       ·
        have h2 : ¬ cntJ J ⟨(p : Int), 1⟩ k = 1 := fun h => hgood ⟨h1, h⟩
        simp [h2]
       ·
        simp [h1])
      clear hall
      by_cases h1 : cntJ J ⟨(p : Int), 0⟩ k = 1
      ·
       have hb2 : (((cntJ J ⟨(p : Int), 1⟩ k : Nat) : Int) == 1) = false := by simp; omega
       rw [h1] at g0
       clear hgood h1
       go_wp2_with fail
       exact bodyPost_ret (v := .agg #[.int .i64 5, .int .i64 p]) (by simp [results, Tryz.results124, go_sem, r0, r1]) rfl ⟨by rw [Hv.out], belS2 hB _ _⟩
      ·
       have hb1 : (((cntJ J ⟨(p : Int), 0⟩ k : Nat) : Int) == 1) = false := by simp; omega
       clear hgood h1
       go_wp2_with fail
       exact bodyPost_ret (v := .agg #[.int .i64 5, .int .i64 p]) (by simp [results, Tryz.results124, go_sem, r0, r1]) rfl ⟨by rw [Hv.out], belS2 hB _ _⟩
    ·
     obtain rfl : p = n := by omega
     have Hv : Hid (stage5 p k J = (0, 0)) := s5_none hall.out
     clear hall
     obtain ⟨z0, z1, y0, y1, r0, r1, f0, f1, hB⟩ := facts6 hbel
     go_wp2_with fail
     exact bodyPost_ret (v := .agg #[.int .i64 0, .int .i64 0]) (by simp [results, Tryz.results124, go_sem, r0, r1]) rfl ⟨by rw [Hv.out], belS2 hB _ _⟩
end Go.Proofs.YtjhmaofjmalglaaGreat
