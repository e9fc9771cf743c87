import Derived.Test.YtjhmaofjmalglaaGreatZad
import Derived.Test.YtjhmaofjmalglaaGreatZae
namespace Go.Proofs.YtjhmaofjmalglaaGreat
open Go.RowKit
def headE (piece way : Int) : En := ⟨piece, if way = 1 then 1 else 0⟩
def farI (ln at' way : Int) : Int := if way = 1 then at' else ln - at'
theorem l12head79 (piece way : Int) (w : World) :
  Calls Tryz.prog 37 #[.int .i64 piece, .int .i64 way] w fun e w' => e = .returned (.agg #[.int .i64 (headE piece way).pc, .int .i64 (headE piece way).sd]) ∧ Below w.heap.size w w' := by
 by_cases h : way = 1
 ·
  have h' : (way == 1) = true := by simp [h]
  have Hv : Hid (headE piece way = ⟨piece, 1⟩) := by
   show headE piece way = _
   simp [headE, h]
  clear h
  go_enter Tryz.func37, Tryz.ntmps37
  go_wp2
  exact bodyPost_ret (v := .agg #[.int .i64 piece, .int .i64 1]) (by simp [results, Tryz.results37, go_sem]) rfl ⟨by rw [Hv.out], bel1 _ _⟩
 ·
  have h' : (way == 1) = false := by simp [h]
  have Hv : Hid (headE piece way = ⟨piece, 0⟩) := by
   show headE piece way = _
   simp [headE, h]
  clear h
  go_enter Tryz.func37, Tryz.ntmps37
  go_wp2
  exact bodyPost_ret (v := .agg #[.int .i64 piece, .int .i64 0]) (by simp [results, Tryz.results37, go_sem]) rfl ⟨by rw [Hv.out], bel1 _ _⟩
def endAt (E : Nat → En) (e : En) (n : Nat) : Option Nat := firstB (fun k => eqB (E k) e) n
def jointAt (J : Nat → Jt) (e : En) : Nat → Option (Nat × Nat)
 | 0 => none
 | i + 1 => match jointAt J e i with
  | some x => some x
  | none => (endAt (J i).E e (J i).ne).map fun k => (i, k)
def atV : Option (Nat × Nat) → Int × Int
 | some x => (x.1, x.2)
 | none => (-1, -1)
theorem jointAt_none {J : Nat → Jt} {e : En} {m : Nat} (h : ∀ i, i < m → endAt (J i).E e (J i).ne = none) : jointAt J e m = none := by
 induction m with
 | zero => rfl
 | succ m ih => simp [jointAt, ih (fun i hi => h i (by omega)), h m (by omega)]
theorem jointAt_hit {J : Nat → Jt} {e : En} {m i k : Nat} (h : ∀ j, j < i → endAt (J j).E e (J j).ne = none) (hi : i < m) (hk : endAt (J i).E e (J i).ne = some k) : jointAt J e m = some (i, k) := by
 induction m with
 | zero => omega
 | succ m ih =>
  by_cases q : i = m
  ·
   subst q; simp [jointAt, jointAt_none h, hk]
  ·
   simp [jointAt, ih (by omega)]
theorem l11at78 (pa : Option Addr) (n pc : Nat) (ja : Option Addr) (m jc : Nat) (J : Nat → Jt) (e : En) (w : World) (hm : m ≤ 1048576) (hJ : JsAt 0 w ja m J) (hne : ∀ i, i < m → (J i).ne ≤ 1048576) :
  Calls Tryz.prog 79 #[.agg #[.slice pa n pc, .slice ja m jc], .agg #[.int .i64 e.pc, .int .i64 e.sd]] w fun r w' => r = .returned (.tuple #[.int .i64 (atV (jointAt J e m)).1, .int .i64 (atV (jointAt J e m)).2]) ∧ Below w.heap.size w w' := by
 have Hne : Hid (∀ i, i < m → (J i).ne ≤ 1048576) := hne
 clear hne
 go_enter Tryz.func79, Tryz.ntmps79
 go_wp2_with fail
 go_loopw [13] (fun i wr => ∃ k : Nat, k ≤ m ∧ i = .int .i64 k ∧ Hid (∀ j, j < k → endAt (J j).E e (J j).ne = none) ∧ Below (w.heap.size + 1 + 1) ((w.alloc (.cells #[.slice pa n pc, .slice ja m jc] 40)).alloc (.cells #[.int .i64 e.pc, .int .i64 e.sd] 76)) wr) (fun i _ => m - (intOf i).toNat)
 case atStart => exact ⟨0, Nat.zero_le _, rfl, fun j hj => absurd hj (Nat.not_lt_zero _), Below.refl _ _⟩
 case round =>
  obtain ⟨k, hk, rfl, hall, hbel⟩ := hrel
  have hB : Below w.heap.size w wr := (bel2 w _ _).trans (hbel.mono (by omega))
  by_cases hlt : k < m
  ·
   obtain ⟨b, off, rfl, _, hb, hc⟩ := (hJ.mono (Nat.le_refl _) hB (Nat.le_refl _)) (by omega)
   obtain ⟨ea, ec, c0, c1, c2, hE⟩ := hc k hlt
   have hnk := Hne.out k hlt
   have z1 : wr.cell? ⟨w.heap.size + 1, 0, none⟩ = some (.int .i64 e.pc) := by rw [hbel.cell (by show w.heap.size + 1 < _; omega)]; simp
   have z2 : wr.cell? ⟨w.heap.size + 1, 1, none⟩ = some (.int .i64 e.sd) := by rw [hbel.cell (by show w.heap.size + 1 < _; omega)]; simp
   have zs : w.heap.size + 1 + 1 ≤ wr.heap.size := by have := hbel.size; simpa using this
   clear hc
   go_wp2_with fail
   obtain ⟨wo, hwo⟩ : ∃ wo : World, wo = wr := ⟨_, rfl⟩
   subst hwo
   go_loopw [21] (fun i wr => ∃ q : Nat, q ≤ (J k).ne ∧ i = .int .i64 q ∧ Hid (∀ j, j < q → eqB ((J k).E j) e = false) ∧ Below wo.heap.size wo wr) (fun i _ => (J k).ne - (intOf i).toNat)
   case atStart => exact ⟨0, Nat.zero_le _, rfl, fun j hj => absurd hj (Nat.not_lt_zero _), (Below.refl _ _).alloc (Nat.le_refl _) _⟩
   case round =>
    obtain ⟨q, hq, rfl, hall2, hbel2⟩ := hrel
    have hB2 := hB.trans (hbel2.mono hB.size)
    by_cases hlq : q < (J k).ne
    ·
     obtain ⟨b2, off2, rfl, _, hb2, hc2⟩ := (hE.mono (Nat.le_refl _) hbel2 (Nat.le_refl _)) (by omega)
     obtain ⟨d0, d1⟩ := hc2 q hlq
     clear hc2
     have y1 : wr.cell? ⟨w.heap.size + 1, 0, none⟩ = some (.int .i64 e.pc) := by rw [hbel2.cell (by show w.heap.size + 1 < _; omega)]; exact z1
     have y2 : wr.cell? ⟨w.heap.size + 1, 1, none⟩ = some (.int .i64 e.sd) := by rw [hbel2.cell (by show w.heap.size + 1 < _; omega)]; exact z2
     have hz3 : w.heap.size + 1 < wr.heap.size := by have := hbel2.size; omega
     have HT : Hid (((J k).E q).pc = e.pc → ((J k).E q).sd = e.sd → atV (jointAt J e m) = ((k : Int), (q : Int))) := fun h1 h2 => by
      rw [jointAt_hit (i := k) (k := q) hall.out hlt (firstB_hit (p := fun j => eqB ((J k).E j) e) hall2.out hlq (by simp [eqB, h1, h2]))]
      rfl
     have HF1 : Hid (¬ ((J k).E q).pc = e.pc → ∀ j, j < q + 1 → eqB ((J k).E j) e = false) := fun h1 => by
      intro j hj
      by_cases e' : j = q
      ·
       subst e'; simp [eqB, h1]
      ·
       exact hall2.out j (by omega)
     have HF2 : Hid (¬ ((J k).E q).sd = e.sd → ∀ j, j < q + 1 → eqB ((J k).E j) e = false) := fun h1 => by
      intro j hj
      by_cases e' : j = q
      ·
       subst e'; simp [eqB, h1]
      ·
       exact hall2.out j (by omega)
     clear hall2 hall
     by_cases h1 : ((J k).E q).pc = e.pc
     ·
      by_cases h2 : ((J k).E q).sd = e.sd
      ·
       have Hv : Hid (atV (jointAt J e m) = ((k : Int), (q : Int))) := HT.out h1 h2
       rw [h1] at d0
       rw [h2] at d1
       clear HT HF1 HF2 h1 h2
       go_wp2_with fail
       go_ret2
       exact ⟨by rw [Hv.out] <;> rfl, hB2.alloc hB2.size _⟩
      ·
       have HV : Hid (∀ j, j < q + 1 → eqB ((J k).E j) e = false) := HF2.out h2
       clear HT HF1 HF2
       go_wp2_with fail
       go_roundw
       case rel => exact ⟨q + 1, by omega, by go_num, HV, hbel2.alloc hbel2.size _⟩
       case measure => simp [intOf]; omega
     ·
      have HV : Hid (∀ j, j < q + 1 → eqB ((J k).E j) e = false) := HF1.out h1
      clear HT HF1 HF2
      go_wp2_with fail
      go_roundw
      case rel => exact ⟨q + 1, by omega, by go_num, HV, hbel2.alloc hbel2.size _⟩
      case measure => simp [intOf]; omega
    ·
     obtain rfl : q = (J k).ne := by omega
     have HV : Hid (∀ j, j < k + 1 → endAt (J j).E e (J j).ne = none) := by
      intro j hj
      by_cases e' : j = k
      ·
       subst e'; exact firstB_none (p := fun t => eqB ((J j).E t) e) hall2.out
      ·
       exact hall.out j (by omega)
     clear hall hall2
     go_wp2_with fail
     go_roundw
     case rel => exact ⟨k + 1, by omega, by go_num, HV, hbel.trans (hbel2.mono zs)⟩
     case measure => simp [intOf]; omega
  ·
   obtain rfl : k = m := by omega
   have Hv : Hid (atV (jointAt J e k) = (-1, -1)) := by
    show atV (jointAt J e k) = _
    rw [jointAt_none hall.out]
    rfl
   clear hall
   go_wp2_with fail
   go_ret2
   exact ⟨by rw [Hv.out] <;> rfl, hB⟩
def acrossF (kd k : Nat) : List Nat := match kd, k with
 | 2, 0 => [1]
 | 2, 1 => [0]
 | 3, 0 => [1, 2]
 | 3, 1 => [0]
 | 3, 2 => [0]
 | 4, 0 => [1]
 | 4, 1 => [0]
 | 4, 2 => [3]
 | 4, 3 => [2]
 | _, _ => []
theorem es_new {w : World} {c : Array Value} {n : Nat} {E : Nat → En} (h : ∀ i, i < n → c[i * 2]? = some (.int .i64 (E i).pc) ∧ c[i * 2 + 1]? = some (.int .i64 (E i).sd)) : EsAt w.heap.size (w.alloc (.cells c 76)) (some ⟨w.heap.size, 0, none⟩) n E := by
 intro _
 refine ⟨w.heap.size, 0, rfl, Nat.le_refl _, by simp, fun i hi => ?_⟩
 rw [World.cell?_alloc_at _ _ _ _ rfl, World.cell?_alloc_at _ _ _ _ rfl, Nat.zero_add]
 exact h i hi
theorem across80_2_0 (nm : ByteArray) (ea : Option Addr) (ne ec : Nat) (E : Nat → En) (w : World) (hne : ne = 2) (hE : EsAt 0 w ea ne E) :
  Calls Tryz.prog 80 #[.agg #[.int .i64 2, .string nm, .slice ea ne ec], .int .i64 0] w fun e w' => ∃ a, e = .returned (.slice a 1 1) ∧ EsAt w.heap.size w' a 1 (fun i => E (([1] : List Nat).getD i 0)) ∧ Below w.heap.size w w' := by
 subst hne
 obtain ⟨b, off, rfl, _, hb, hc⟩ := hE (by omega)
 have a1 : w.cell? ⟨b, off + 2, none⟩ = some (.int .i64 (E 1).pc) := (hc 1 (by omega)).1
 have b1 : w.cell? ⟨b, off + 2 + 1, none⟩ = some (.int .i64 (E 1).sd) := (hc 1 (by omega)).2
 have hE2 := es_new (w := w.alloc (.cells #[.int .i64 2, .string nm, .slice (some ⟨b, off, none⟩) 2 ec] 132)) (c := #[.int .i64 (E 1).pc, .int .i64 (E 1).sd]) (n := 1) (E := fun i => E (([1] : List Nat).getD i 0)) (fun i hi => by
  obtain rfl : i = 0 := by omega
  exact ⟨rfl, rfl⟩)
 rw [show (w.alloc (.cells #[.int .i64 2, .string nm, .slice (some ⟨b, off, none⟩) 2 ec] 132)).heap.size = w.heap.size + 1 by simp] at hE2
 clear hc hE
 go_enter Tryz.func80, Tryz.ntmps80
 go_wp2_with fail
 all_goals go_ret
 all_goals exact ⟨_, rfl, hE2.keep (by omega) (Nat.le_refl _) fun _ _ _ => rfl, bel2 _ _ _⟩
theorem across80_2_1 (nm : ByteArray) (ea : Option Addr) (ne ec : Nat) (E : Nat → En) (w : World) (hne : ne = 2) (hE : EsAt 0 w ea ne E) :
  Calls Tryz.prog 80 #[.agg #[.int .i64 2, .string nm, .slice ea ne ec], .int .i64 1] w fun e w' => ∃ a, e = .returned (.slice a 1 1) ∧ EsAt w.heap.size w' a 1 (fun i => E (([0] : List Nat).getD i 0)) ∧ Below w.heap.size w w' := by
 subst hne
 obtain ⟨b, off, rfl, _, hb, hc⟩ := hE (by omega)
 have a0 : w.cell? ⟨b, off, none⟩ = some (.int .i64 (E 0).pc) := (hc 0 (by omega)).1
 have b0 : w.cell? ⟨b, off + 1, none⟩ = some (.int .i64 (E 0).sd) := (hc 0 (by omega)).2
 have hE2 := es_new (w := w.alloc (.cells #[.int .i64 2, .string nm, .slice (some ⟨b, off, none⟩) 2 ec] 132)) (c := #[.int .i64 (E 0).pc, .int .i64 (E 0).sd]) (n := 1) (E := fun i => E (([0] : List Nat).getD i 0)) (fun i hi => by
  obtain rfl : i = 0 := by omega
  exact ⟨rfl, rfl⟩)
 rw [show (w.alloc (.cells #[.int .i64 2, .string nm, .slice (some ⟨b, off, none⟩) 2 ec] 132)).heap.size = w.heap.size + 1 by simp] at hE2
 clear hc hE
 go_enter Tryz.func80, Tryz.ntmps80
 go_wp2_with fail
 all_goals go_ret
 all_goals exact ⟨_, rfl, hE2.keep (by omega) (Nat.le_refl _) fun _ _ _ => rfl, bel2 _ _ _⟩
theorem across80_3_0 (nm : ByteArray) (ea : Option Addr) (ne ec : Nat) (E : Nat → En) (w : World) (hne : ne = 3) (hE : EsAt 0 w ea ne E) :
  Calls Tryz.prog 80 #[.agg #[.int .i64 3, .string nm, .slice ea ne ec], .int .i64 0] w fun e w' => ∃ a, e = .returned (.slice a 2 2) ∧ EsAt w.heap.size w' a 2 (fun i => E (([1, 2] : List Nat).getD i 0)) ∧ Below w.heap.size w w' := by
 subst hne
 obtain ⟨b, off, rfl, _, hb, hc⟩ := hE (by omega)
 have a1 : w.cell? ⟨b, off + 2, none⟩ = some (.int .i64 (E 1).pc) := (hc 1 (by omega)).1
 have b1 : w.cell? ⟨b, off + 2 + 1, none⟩ = some (.int .i64 (E 1).sd) := (hc 1 (by omega)).2
 have a2 : w.cell? ⟨b, off + 4, none⟩ = some (.int .i64 (E 2).pc) := (hc 2 (by omega)).1
 have b2 : w.cell? ⟨b, off + 4 + 1, none⟩ = some (.int .i64 (E 2).sd) := (hc 2 (by omega)).2
 have hE2 := es_new (w := w.alloc (.cells #[.int .i64 3, .string nm, .slice (some ⟨b, off, none⟩) 3 ec] 132)) (c := #[.int .i64 (E 1).pc, .int .i64 (E 1).sd, .int .i64 (E 2).pc, .int .i64 (E 2).sd]) (n := 2) (E := fun i => E (([1, 2] : List Nat).getD i 0)) (fun i hi => by
  rcases (show i = 0 ∨ i = 1 by omega) with rfl | rfl
  all_goals exact ⟨rfl, rfl⟩)
 rw [show (w.alloc (.cells #[.int .i64 3, .string nm, .slice (some ⟨b, off, none⟩) 3 ec] 132)).heap.size = w.heap.size + 1 by simp] at hE2
 clear hc hE
 go_enter Tryz.func80, Tryz.ntmps80
 go_wp2_with fail
 go_region
 all_goals go_wp2_with fail
 all_goals go_ret
 all_goals exact ⟨_, rfl, hE2.keep (by omega) (Nat.le_refl _) fun _ _ _ => rfl, (bel2 _ _ _).drew⟩
theorem across80_3_1 (nm : ByteArray) (ea : Option Addr) (ne ec : Nat) (E : Nat → En) (w : World) (hne : ne = 3) (hE : EsAt 0 w ea ne E) :
  Calls Tryz.prog 80 #[.agg #[.int .i64 3, .string nm, .slice ea ne ec], .int .i64 1] w fun e w' => ∃ a, e = .returned (.slice a 1 1) ∧ EsAt w.heap.size w' a 1 (fun i => E (([0] : List Nat).getD i 0)) ∧ Below w.heap.size w w' := by
 subst hne
 obtain ⟨b, off, rfl, _, hb, hc⟩ := hE (by omega)
 have a0 : w.cell? ⟨b, off, none⟩ = some (.int .i64 (E 0).pc) := (hc 0 (by omega)).1
 have b0 : w.cell? ⟨b, off + 1, none⟩ = some (.int .i64 (E 0).sd) := (hc 0 (by omega)).2
 have hE2 := es_new (w := w.alloc (.cells #[.int .i64 3, .string nm, .slice (some ⟨b, off, none⟩) 3 ec] 132)) (c := #[.int .i64 (E 0).pc, .int .i64 (E 0).sd]) (n := 1) (E := fun i => E (([0] : List Nat).getD i 0)) (fun i hi => by
  obtain rfl : i = 0 := by omega
  exact ⟨rfl, rfl⟩)
 rw [show (w.alloc (.cells #[.int .i64 3, .string nm, .slice (some ⟨b, off, none⟩) 3 ec] 132)).heap.size = w.heap.size + 1 by simp] at hE2
 clear hc hE
 go_enter Tryz.func80, Tryz.ntmps80
 go_wp2_with fail
 all_goals go_ret
 all_goals exact ⟨_, rfl, hE2.keep (by omega) (Nat.le_refl _) fun _ _ _ => rfl, bel2 _ _ _⟩
theorem across80_3_2 (nm : ByteArray) (ea : Option Addr) (ne ec : Nat) (E : Nat → En) (w : World) (hne : ne = 3) (hE : EsAt 0 w ea ne E) :
  Calls Tryz.prog 80 #[.agg #[.int .i64 3, .string nm, .slice ea ne ec], .int .i64 2] w fun e w' => ∃ a, e = .returned (.slice a 1 1) ∧ EsAt w.heap.size w' a 1 (fun i => E (([0] : List Nat).getD i 0)) ∧ Below w.heap.size w w' := by
 subst hne
 obtain ⟨b, off, rfl, _, hb, hc⟩ := hE (by omega)
 have a0 : w.cell? ⟨b, off, none⟩ = some (.int .i64 (E 0).pc) := (hc 0 (by omega)).1
 have b0 : w.cell? ⟨b, off + 1, none⟩ = some (.int .i64 (E 0).sd) := (hc 0 (by omega)).2
 have hE2 := es_new (w := w.alloc (.cells #[.int .i64 3, .string nm, .slice (some ⟨b, off, none⟩) 3 ec] 132)) (c := #[.int .i64 (E 0).pc, .int .i64 (E 0).sd]) (n := 1) (E := fun i => E (([0] : List Nat).getD i 0)) (fun i hi => by
  obtain rfl : i = 0 := by omega
  exact ⟨rfl, rfl⟩)
 rw [show (w.alloc (.cells #[.int .i64 3, .string nm, .slice (some ⟨b, off, none⟩) 3 ec] 132)).heap.size = w.heap.size + 1 by simp] at hE2
 clear hc hE
 go_enter Tryz.func80, Tryz.ntmps80
 go_wp2_with fail
 all_goals go_ret
 all_goals exact ⟨_, rfl, hE2.keep (by omega) (Nat.le_refl _) fun _ _ _ => rfl, bel2 _ _ _⟩
theorem across80_4_0 (nm : ByteArray) (ea : Option Addr) (ne ec : Nat) (E : Nat → En) (w : World) (hne : ne = 4) (hE : EsAt 0 w ea ne E) :
  Calls Tryz.prog 80 #[.agg #[.int .i64 4, .string nm, .slice ea ne ec], .int .i64 0] w fun e w' => ∃ a, e = .returned (.slice a 1 1) ∧ EsAt w.heap.size w' a 1 (fun i => E (([1] : List Nat).getD i 0)) ∧ Below w.heap.size w w' := by
 subst hne
 obtain ⟨b, off, rfl, _, hb, hc⟩ := hE (by omega)
 have a1 : w.cell? ⟨b, off + 2, none⟩ = some (.int .i64 (E 1).pc) := (hc 1 (by omega)).1
 have b1 : w.cell? ⟨b, off + 2 + 1, none⟩ = some (.int .i64 (E 1).sd) := (hc 1 (by omega)).2
 have hE2 := es_new (w := (w.alloc (.cells #[.int .i64 4, .string nm, .slice (some ⟨b, off, none⟩) 4 ec] 132)).alloc (.cells #[.int .i64 1, .int .i64 0, .int .i64 3, .int .i64 2] 3)) (c := #[.int .i64 (E 1).pc, .int .i64 (E 1).sd]) (n := 1) (E := fun i => E (([1] : List Nat).getD i 0)) (fun i hi => by
  obtain rfl : i = 0 := by omega
  exact ⟨rfl, rfl⟩)
 rw [show ((w.alloc (.cells #[.int .i64 4, .string nm, .slice (some ⟨b, off, none⟩) 4 ec] 132)).alloc (.cells #[.int .i64 1, .int .i64 0, .int .i64 3, .int .i64 2] 3)).heap.size = w.heap.size + 1 + 1 by simp] at hE2
 clear hc hE
 go_enter Tryz.func80, Tryz.ntmps80
 go_wp2_with fail
 go_region
 all_goals go_wp2_with fail
 all_goals go_ret
 all_goals exact ⟨_, rfl, hE2.keep (by omega) (Nat.le_refl _) fun _ _ _ => rfl, (bel3 _ _ _ _).drew⟩
theorem across80_4_1 (nm : ByteArray) (ea : Option Addr) (ne ec : Nat) (E : Nat → En) (w : World) (hne : ne = 4) (hE : EsAt 0 w ea ne E) :
  Calls Tryz.prog 80 #[.agg #[.int .i64 4, .string nm, .slice ea ne ec], .int .i64 1] w fun e w' => ∃ a, e = .returned (.slice a 1 1) ∧ EsAt w.heap.size w' a 1 (fun i => E (([0] : List Nat).getD i 0)) ∧ Below w.heap.size w w' := by
 subst hne
 obtain ⟨b, off, rfl, _, hb, hc⟩ := hE (by omega)
 have a0 : w.cell? ⟨b, off, none⟩ = some (.int .i64 (E 0).pc) := (hc 0 (by omega)).1
 have b0 : w.cell? ⟨b, off + 1, none⟩ = some (.int .i64 (E 0).sd) := (hc 0 (by omega)).2
 have hE2 := es_new (w := (w.alloc (.cells #[.int .i64 4, .string nm, .slice (some ⟨b, off, none⟩) 4 ec] 132)).alloc (.cells #[.int .i64 1, .int .i64 0, .int .i64 3, .int .i64 2] 3)) (c := #[.int .i64 (E 0).pc, .int .i64 (E 0).sd]) (n := 1) (E := fun i => E (([0] : List Nat).getD i 0)) (fun i hi => by
  obtain rfl : i = 0 := by omega
  exact ⟨rfl, rfl⟩)
 rw [show ((w.alloc (.cells #[.int .i64 4, .string nm, .slice (some ⟨b, off, none⟩) 4 ec] 132)).alloc (.cells #[.int .i64 1, .int .i64 0, .int .i64 3, .int .i64 2] 3)).heap.size = w.heap.size + 1 + 1 by simp] at hE2
 clear hc hE
 go_enter Tryz.func80, Tryz.ntmps80
 go_wp2_with fail
 go_region
 all_goals go_wp2_with fail
 all_goals go_ret
 all_goals exact ⟨_, rfl, hE2.keep (by omega) (Nat.le_refl _) fun _ _ _ => rfl, (bel3 _ _ _ _).drew⟩
theorem across80_4_2 (nm : ByteArray) (ea : Option Addr) (ne ec : Nat) (E : Nat → En) (w : World) (hne : ne = 4) (hE : EsAt 0 w ea ne E) :
  Calls Tryz.prog 80 #[.agg #[.int .i64 4, .string nm, .slice ea ne ec], .int .i64 2] w fun e w' => ∃ a, e = .returned (.slice a 1 1) ∧ EsAt w.heap.size w' a 1 (fun i => E (([3] : List Nat).getD i 0)) ∧ Below w.heap.size w w' := by
 subst hne
 obtain ⟨b, off, rfl, _, hb, hc⟩ := hE (by omega)
 have a3 : w.cell? ⟨b, off + 6, none⟩ = some (.int .i64 (E 3).pc) := (hc 3 (by omega)).1
 have b3 : w.cell? ⟨b, off + 6 + 1, none⟩ = some (.int .i64 (E 3).sd) := (hc 3 (by omega)).2
 have hE2 := es_new (w := (w.alloc (.cells #[.int .i64 4, .string nm, .slice (some ⟨b, off, none⟩) 4 ec] 132)).alloc (.cells #[.int .i64 1, .int .i64 0, .int .i64 3, .int .i64 2] 3)) (c := #[.int .i64 (E 3).pc, .int .i64 (E 3).sd]) (n := 1) (E := fun i => E (([3] : List Nat).getD i 0)) (fun i hi => by
  obtain rfl : i = 0 := by omega
  exact ⟨rfl, rfl⟩)
 rw [show ((w.alloc (.cells #[.int .i64 4, .string nm, .slice (some ⟨b, off, none⟩) 4 ec] 132)).alloc (.cells #[.int .i64 1, .int .i64 0, .int .i64 3, .int .i64 2] 3)).heap.size = w.heap.size + 1 + 1 by simp] at hE2
 clear hc hE
 go_enter Tryz.func80, Tryz.ntmps80
 go_wp2_with fail
 go_region
 all_goals go_wp2_with fail
 all_goals go_ret
 all_goals exact ⟨_, rfl, hE2.keep (by omega) (Nat.le_refl _) fun _ _ _ => rfl, (bel3 _ _ _ _).drew⟩
theorem across80_4_3 (nm : ByteArray) (ea : Option Addr) (ne ec : Nat) (E : Nat → En) (w : World) (hne : ne = 4) (hE : EsAt 0 w ea ne E) :
  Calls Tryz.prog 80 #[.agg #[.int .i64 4, .string nm, .slice ea ne ec], .int .i64 3] w fun e w' => ∃ a, e = .returned (.slice a 1 1) ∧ EsAt w.heap.size w' a 1 (fun i => E (([2] : List Nat).getD i 0)) ∧ Below w.heap.size w w' := by
 subst hne
 obtain ⟨b, off, rfl, _, hb, hc⟩ := hE (by omega)
 have a2 : w.cell? ⟨b, off + 4, none⟩ = some (.int .i64 (E 2).pc) := (hc 2 (by omega)).1
 have b2 : w.cell? ⟨b, off + 4 + 1, none⟩ = some (.int .i64 (E 2).sd) := (hc 2 (by omega)).2
 have hE2 := es_new (w := (w.alloc (.cells #[.int .i64 4, .string nm, .slice (some ⟨b, off, none⟩) 4 ec] 132)).alloc (.cells #[.int .i64 1, .int .i64 0, .int .i64 3, .int .i64 2] 3)) (c := #[.int .i64 (E 2).pc, .int .i64 (E 2).sd]) (n := 1) (E := fun i => E (([2] : List Nat).getD i 0)) (fun i hi => by
  obtain rfl : i = 0 := by omega
  exact ⟨rfl, rfl⟩)
 rw [show ((w.alloc (.cells #[.int .i64 4, .string nm, .slice (some ⟨b, off, none⟩) 4 ec] 132)).alloc (.cells #[.int .i64 1, .int .i64 0, .int .i64 3, .int .i64 2] 3)).heap.size = w.heap.size + 1 + 1 by simp] at hE2
 clear hc hE
 go_enter Tryz.func80, Tryz.ntmps80
 go_wp2_with fail
 go_region
 all_goals go_wp2_with fail
 all_goals go_ret
 all_goals exact ⟨_, rfl, hE2.keep (by omega) (Nat.le_refl _) fun _ _ _ => rfl, (bel3 _ _ _ _).drew⟩
theorem across59 (nm : ByteArray) (ea : Option Addr) (ne ec : Nat) (E : Nat → En) (kd : Int) (q : Nat) (w : World) (hk : kd = 2 ∨ kd = 3 ∨ kd = 4) (hne : (ne : Int) = kd) (hq : q < ne) (hE : EsAt 0 w ea ne E) :
  Calls Tryz.prog 80 #[.agg #[.int .i64 kd, .string nm, .slice ea ne ec], .int .i64 q] w fun e w' => ∃ a, e = .returned (.slice a (acrossF kd.toNat q).length (acrossF kd.toNat q).length) ∧ EsAt w.heap.size w' a (acrossF kd.toNat q).length (fun i => E ((acrossF kd.toNat q).getD i 0)) ∧ Below w.heap.size w w' := by
 rcases hk with rfl | rfl | rfl
 ·
  have hn : ne = 2 := by omega
  subst hn
  rcases (show q = 0 ∨ q = 1 by omega) with rfl | rfl
  ·
   exact across80_2_0 nm ea 2 ec E w rfl hE
  ·
   exact across80_2_1 nm ea 2 ec E w rfl hE
 ·
  have hn : ne = 3 := by omega
  subst hn
  rcases (show q = 0 ∨ q = 1 ∨ q = 2 by omega) with rfl | rfl | rfl
  ·
   exact across80_3_0 nm ea 3 ec E w rfl hE
  ·
   exact across80_3_1 nm ea 3 ec E w rfl hE
  ·
   exact across80_3_2 nm ea 3 ec E w rfl hE
 ·
  have hn : ne = 4 := by omega
  subst hn
  rcases (show q = 0 ∨ q = 1 ∨ q = 2 ∨ q = 3 by omega) with rfl | rfl | rfl | rfl
  ·
   exact across80_4_0 nm ea 4 ec E w rfl hE
  ·
   exact across80_4_1 nm ea 4 ec E w rfl hE
  ·
   exact across80_4_2 nm ea 4 ec E w rfl hE
  ·
   exact across80_4_3 nm ea 4 ec E w rfl hE
end Go.Proofs.YtjhmaofjmalglaaGreat
