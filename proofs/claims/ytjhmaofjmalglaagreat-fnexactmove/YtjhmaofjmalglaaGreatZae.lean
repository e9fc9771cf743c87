import Derived.Test.YtjhmaofjmalglaaGreatZad
namespace Go.Proofs.YtjhmaofjmalglaaGreat
open Go.RowKit
set_option maxHeartbeats 2000000 in
theorem l11joint20 (pa : Option Addr) (n pc : Nat) (ja : Option Addr) (m jc : Nat) (J : Nat → Jt) (i : Nat) (w : World) (hn : n ≤ 1048576) (hm : m ≤ 1048576) (hi : i < m)
  (hJ : JsAt 0 w ja m J) (hne : ∀ i, i < m → (J i).ne ≤ 1048576 ∧ (J i).nm.size ≤ maxLen) :
  Calls Tryz.prog 140 #[.agg #[.slice pa n pc, .slice ja m jc], .int .i64 i] w fun r w' => r = .returned (.int .i64 (jcode n J i)) ∧ Below w.heap.size w w' := by
 obtain ⟨hnk, hsk⟩ := hne i hi
 clear hne
 obtain ⟨b, off, rfl, _, hb, hc⟩ := hJ (by omega)
 obtain ⟨ea, ec, c0, c1, c2, hE⟩ := hc i hi
 have Hc : Hid (∀ q, q < m → w.cell? ⟨b, off + q * 3 + 1, none⟩ = some (.string (J q).nm)) := fun q hq => by
  obtain ⟨_, _, _, h, _⟩ := hc q hq
  exact h
 clear hc hJ
 cases h1 : inB (J i).kd 1 4
 ·
  go_enter Tryz.func140, Tryz.ntmps140
  go_wp2_with (go_at_call 139; refine (in19 _ _ _ _).mono ?_; rintro e w' ⟨rfl, rfl⟩)
  go_ret
  exact ⟨by simp [jcode, endsBad, h1], bel2 _ _ _⟩
 ·
  by_cases h2 : ((J i).ne : Int) = (J i).kd
  ·
   have h2' : (((J i).ne : Int) != (J i).kd) = false := by simp [h2]
   have H2 : Hid (((J i).ne : Int) = (J i).kd) := h2
   clear h2
   go_enter Tryz.func140, Tryz.ntmps140
   go_wp2_with (go_at_call 139; refine (in19 _ _ _ _).mono ?_; rintro e w' ⟨rfl, rfl⟩)
   go_loopw [29] (fun i' wr => ∃ q : Nat, q ≤ (J i).ne ∧ i' = .int .i64 q ∧ Hid (∀ j, j < q → endB n ((J i).E j) = true) ∧
     Below (w.heap.size + 1 + 1) ((w.alloc (.cells #[.slice pa n pc, .slice (some ⟨b, off, none⟩) m jc] 40)).alloc (.cells #[.int .i64 (J i).kd, .string (J i).nm, .slice ea (J i).ne ec] 132)) wr) (fun i' _ => (J i).ne - (intOf i').toNat)
   case atStart => exact ⟨0, Nat.zero_le _, rfl, fun j hj => absurd hj (Nat.not_lt_zero _), Below.refl _ _⟩
   case round =>
    obtain ⟨q, hq, rfl, hall, hbel⟩ := hrel
    have hB : Below w.heap.size w wr := (bel2 w _ _).trans (hbel.mono (by omega))
    have zs : w.heap.size + 1 < wr.heap.size := by have := hbel.size; simp at this; omega
    have zs0 : w.heap.size < wr.heap.size := by omega
    have y0 : wr.cell? ⟨w.heap.size, 0, none⟩ = some (.slice pa n pc) := by rw [hbel.cell (by show w.heap.size < _; omega), World.cell?_alloc_past _ _ _ (by simp)]; simp
    have y1 : wr.cell? ⟨w.heap.size, 1, none⟩ = some (.slice (some ⟨b, off, none⟩) m jc) := by rw [hbel.cell (by show w.heap.size < _; omega), World.cell?_alloc_past _ _ _ (by simp)]; simp
    have z0 : wr.cell? ⟨w.heap.size + 1, 0, none⟩ = some (.int .i64 (J i).kd) := by rw [hbel.cell (by show w.heap.size + 1 < _; omega), World.cell?_alloc_at _ _ _ _ (by simp)]; rfl
    have z1 : wr.cell? ⟨w.heap.size + 1, 1, none⟩ = some (.string (J i).nm) := by rw [hbel.cell (by show w.heap.size + 1 < _; omega), World.cell?_alloc_at _ _ _ _ (by simp)]; rfl
    have z2 : wr.cell? ⟨w.heap.size + 1, 2, none⟩ = some (.slice ea (J i).ne ec) := by rw [hbel.cell (by show w.heap.size + 1 < _; omega), World.cell?_alloc_at _ _ _ _ (by simp)]; rfl
    by_cases hlq : q < (J i).ne
    ·
     obtain ⟨b2, off2, rfl, _, hb2, hc2⟩ := (hE.mono (Nat.le_refl _) hB (Nat.le_refl _)) (by omega)
     obtain ⟨d0, d1⟩ := hc2 q hlq
     clear hc2
     cases h3 : endB n ((J i).E q)
     ·
      have Hv : Hid (jcode n J i = 3) := by
       show jcode n J i = 3
       simp [jcode, endsBad, allE_false hlq h3]
      clear hall
      go_wp2_with (go_at_call 148; refine (l11end39 pa n pc _ m jc ((J i).E q) _ hn).mono ?_; rintro e w1 ⟨rfl, hb1⟩)
      go_ret
      exact ⟨by rw [Hv.out] <;> rfl, hB.trans (((Below.refl _ _).alloc (Nat.le_refl _) _).trans (hb1.mono (by simp)) |>.mono hB.size)⟩
     ·
      have Hall : Hid (∀ j, j < q + 1 → endB n ((J i).E j) = true) := by
       intro j hj
       by_cases e : j = q
       ·
        subst e; exact h3
       ·
        exact hall.out j (by omega)
      clear hall
      go_wp2_with (go_at_call 148; refine (l11end39 pa n pc _ m jc ((J i).E q) _ hn).mono ?_; rintro e w1 ⟨rfl, hb1⟩)
      go_roundw
      case rel => exact ⟨q + 1, by omega, by go_num, Hall, hbel.trans (((Below.refl _ _).alloc (Nat.le_refl _) _).trans (hb1.mono (by simp)) |>.mono (by omega))⟩
      case measure => simp [intOf]; omega
    ·
     obtain rfl : q = (J i).ne := by omega
     have Ha : Hid (endsBad n (J i) = false) := by
      show endsBad n (J i) = false
      simp [endsBad, h1, H2.out, allE_true hall.out]
     clear hall
     by_cases h3 : (J i).kd < 3
     ·
      have Hv : Hid (jcode n J i = if (!(J i).nm.toList.isEmpty) then 4 else 0) := by
       show jcode n J i = _
       simp [jcode, nameBad, Ha.out, h3]
      go_wp2_with fail
      all_goals
       go_ret
       exact ⟨by rw [Hv.out, ‹(!(J i).nm.toList.isEmpty) = _›] <;> rfl, hB⟩
     ·
      have h3' : decide ((J i).kd < 3) = false := by simp; omega
      cases h4 : nameB (J i).nm
      ·
       have Hv : Hid (jcode n J i = 4) := by
        show jcode n J i = _
        simp [jcode, nameBad, Ha.out, h3, h4]
       clear h3
       go_wp2_with (go_at_call 138; refine (name18 _ _ hsk).mono ?_; rintro e wr ⟨rfl, rfl⟩)
       go_ret
       exact ⟨by rw [Hv.out] <;> rfl, hB⟩
      ·
       have Hv : Hid (jcode n J i = if dupN (fun k => (J k).nm) (J i).nm i then 4 else 0) := by
        show jcode n J i = _
        simp [jcode, nameBad, Ha.out, h3, h4]
       clear h3
       go_wp2_with (go_at_call 138; refine (name18 _ _ hsk).mono ?_; rintro e wr ⟨rfl, rfl⟩)
       obtain ⟨wo, hwo⟩ : ∃ wo : World, wo = wr := ⟨_, rfl⟩
       subst hwo
       go_loopw [8] (fun i' wr => ∃ q : Nat, q ≤ i ∧ i' = .int .i64 q ∧ Hid (∀ j, j < q → ((J j).nm.toList == (J i).nm.toList) = false) ∧ Below wo.heap.size wo wr) (fun i' _ => i - (intOf i').toNat)
       case atStart => exact ⟨0, Nat.zero_le _, rfl, fun j hj => absurd hj (Nat.not_lt_zero _), Below.refl _ _⟩
       case round =>
        obtain ⟨q, hq, rfl, hall, hbel2⟩ := hrel
        have hB2 : Below w.heap.size w wr := hB.trans (hbel2.mono hB.size)
        by_cases hlq : q < i
        ·
         have d1 : wr.cell? ⟨b, off + q * 3 + 1, none⟩ = some (.string (J q).nm) := (hB2.cell (by exact hb)).trans (Hc.out q (by omega))
         have y1' : wr.cell? ⟨w.heap.size, 1, none⟩ = some (.slice (some ⟨b, off, none⟩) m jc) := (hbel2.cell (by exact zs0)).trans y1
         have z1' : wr.cell? ⟨w.heap.size + 1, 1, none⟩ = some (.string (J i).nm) := (hbel2.cell (by exact zs)).trans z1
         have hq0 : (0 : Int) ≤ (q : Int) := by omega
         have hqm : (q : Int) < (m : Int) := by omega
         cases h5 : ((J q).nm.toList == (J i).nm.toList)
         ·
          have Hall : Hid (∀ j, j < q + 1 → ((J j).nm.toList == (J i).nm.toList) = false) := by
           intro j hj
           by_cases e : j = q
           ·
            subst e; exact h5
           ·
            exact hall.out j (by omega)
          clear hall
          go_wp2_with fail
          go_quiet (fail)
          go_wp2_with fail
          go_roundw
          case rel => exact ⟨q + 1, by omega, by go_num, Hall, below_drewN hbel2 _⟩
          case measure => simp [intOf]; omega
         ·
          have Hv4 : Hid (jcode n J i = 4) := by
           show jcode n J i = _
           rw [Hv.out, dupN_true hlq h5]
           rfl
          clear hall
          go_wp2_with fail
          go_quiet (fail)
          go_wp2_with fail
          go_ret
          exact ⟨by rw [Hv4.out] <;> rfl, below_drewN hB2 _⟩
        ·
         obtain rfl : q = i := by omega
         have Hv0 : Hid (jcode n J q = 0) := by
          show jcode n J q = _
          rw [Hv.out, dupN_false hall.out]
          rfl
         clear hall
         go_wp2_with fail
         go_ret
         exact ⟨by rw [Hv0.out] <;> rfl, hB2⟩
  ·
   have h2' : (((J i).ne : Int) != (J i).kd) = true := by simp [h2]
   have Hv : Hid (jcode n J i = 3) := by
    show jcode n J i = 3
    simp [jcode, endsBad, h2]
   clear h2
   go_enter Tryz.func140, Tryz.ntmps140
   go_wp2_with (go_at_call 139; refine (in19 _ _ _ _).mono ?_; rintro e w' ⟨rfl, rfl⟩)
   go_ret
   exact ⟨by rw [Hv.out] <;> rfl, bel2 _ _ _⟩
end Go.Proofs.YtjhmaofjmalglaaGreat
namespace Go.Proofs.YtjhmaofjmalglaaGreat
open Go.RowKit
def X6 (w : World) (pa : Option Addr) (n pc : Nat) (ja : Option Addr) (m jc : Nat) : World := (w.alloc (.cells #[.slice pa n pc, .slice ja m jc] 40)).alloc (.cells #[.int .i64 0, .int .i64 0] 137)
structure Facts6 (w wr : World) (pa : Option Addr) (n pc : Nat) (ja : Option Addr) (m jc : Nat) : Prop where
 z0 : w.heap.size < wr.heap.size
 z1 : w.heap.size + 1 < wr.heap.size
 y0 : wr.cell? ⟨w.heap.size, 0, none⟩ = some (.slice pa n pc)
 y1 : wr.cell? ⟨w.heap.size, 1, none⟩ = some (.slice ja m jc)
 r0 : wr.cell? ⟨w.heap.size + 1, 0, none⟩ = some (.int .i64 0)
 r1 : wr.cell? ⟨w.heap.size + 1, 1, none⟩ = some (.int .i64 0)
 f0 : wr.frozen? ⟨w.heap.size + 1, 0, none⟩ = false
 f1 : wr.frozen? ⟨w.heap.size + 1, 1, none⟩ = false
 hB : Below w.heap.size w wr
theorem facts6 {w wr : World} {pa : Option Addr} {n pc : Nat} {ja : Option Addr} {m jc : Nat} (h : Below (w.heap.size + 1 + 1) (X6 w pa n pc ja m jc) wr) : Facts6 w wr pa n pc ja m jc := by
 unfold X6 at h
 have hs := h.size
 simp at hs
 have e0 : w.heap.size < w.heap.size + 1 + 1 := by omega
 have e1 : w.heap.size + 1 < w.heap.size + 1 + 1 := by omega
 refine ⟨by omega, by omega, ?_, ?_, ?_, ?_, ?_, ?_, (bel2 w _ _).trans (h.mono (by omega))⟩
 ·
  rw [h.cell (by exact e0), World.cell?_alloc_past _ _ _ (by simp)]; simp
 ·
  rw [h.cell (by exact e0), World.cell?_alloc_past _ _ _ (by simp)]; simp
 ·
  rw [h.cell (by exact e1), World.cell?_alloc_at _ _ _ _ (by simp)]; rfl
 ·
  rw [h.cell (by exact e1), World.cell?_alloc_at _ _ _ _ (by simp)]; rfl
 ·
  rw [h.frozen (by exact e1)]; exact World.frozen?_alloc_at _ _ _ _ (by simp)
 ·
  rw [h.frozen (by exact e1)]; exact World.frozen?_alloc_at _ _ _ _ (by simp)
theorem netF_1 {n : Nat} {P : Nat → Pc} {m : Nat} {J : Nat → Jt} (h : n = 0 ∨ 100 < n ∨ 120 < m) : netF n P m J = (1, 0) := by simp [netF, h]
theorem netF_2 {n : Nat} {P : Nat → Pc} {m : Nat} {J : Nat → Jt} (h : ¬ (n = 0 ∨ 100 < n ∨ 120 < m)) {k : Nat} (hk : k < n) (ha : ∀ q, q < k → pieceBad P q = false) (hp : pieceBad P k = true) : netF n P m J = (2, (k : Int)) := by
 rw [netF, if_neg h, stage2, firstB_hit ha hk hp]
theorem netF_s3 {n : Nat} {P : Nat → Pc} {m : Nat} {J : Nat → Jt} (h : ¬ (n = 0 ∨ 100 < n ∨ 120 < m)) (ha : ∀ q, q < n → pieceBad P q = false) : netF n P m J = stage3 n m J := by
 rw [netF, if_neg h, stage2, firstB_none ha]
theorem s3_hit {n m : Nat} {J : Nat → Jt} {k : Nat} (hk : k < m) (ha : ∀ q, q < k → endsBad n (J q) = false) (hp : endsBad n (J k) = true) : stage3 n m J = (3, (k : Int)) := by
 rw [stage3, firstB_hit (p := fun j => endsBad n (J j)) ha hk hp]
theorem s3_none {n m : Nat} {J : Nat → Jt} (ha : ∀ q, q < m → endsBad n (J q) = false) : stage3 n m J = stage4 n m J := by
 rw [stage3, firstB_none (p := fun j => endsBad n (J j)) ha]
theorem s4_hit {n m : Nat} {J : Nat → Jt} {k : Nat} (hk : k < m) (ha : ∀ q, q < k → nameBad J q = false) (hp : nameBad J k = true) : stage4 n m J = (4, (k : Int)) := by
 rw [stage4, firstB_hit ha hk hp]
theorem s4_none {n m : Nat} {J : Nat → Jt} (ha : ∀ q, q < m → nameBad J q = false) : stage4 n m J = stage5 n m J := by
 rw [stage4, firstB_none ha]
theorem s5_hit {n m : Nat} {J : Nat → Jt} {k : Nat} (hk : k < n) (ha : ∀ q, q < k → looseBad J m q = false) (hp : looseBad J m k = true) : stage5 n m J = (5, (k : Int)) := by
 rw [stage5, firstB_hit ha hk hp]
theorem s5_none {n m : Nat} {J : Nat → Jt} (ha : ∀ q, q < n → looseBad J m q = false) : stage5 n m J = (0, 0) := by
 rw [stage5, firstB_none ha]
theorem snoc_all {p : Nat → Bool} {k : Nat} {b : Bool} (h : ∀ q, q < k → p q = b) (hk : p k = b) : ∀ q, q < k + 1 → p q = b := by
 intro q hq
 by_cases e : q = k
 ·
  subst e; exact hk
 ·
  exact h q (by omega)
set_option maxHeartbeats 4000000 in
theorem spec6_1 (pa : Option Addr) (n pc : Nat) (P : Nat → Pc) (ja : Option Addr) (m jc : Nat) (J : Nat → Jt) (w : World) (hn : n ≤ 1048576) (hm : m ≤ 1048576) (h : n = 0 ∨ 100 < n ∨ 120 < m) :
  Calls Tryz.prog 119 #[.agg #[.slice pa n pc, .slice ja m jc]] w fun r w' => r = .returned (.agg #[.int .i64 (netF n P m J).1, .int .i64 (netF n P m J).2]) ∧ Below w.heap.size w w' := by
 rw [netF_1 h]
 by_cases h1 : n = 0
 ·
  subst h1
  go_enter Tryz.func119, Tryz.ntmps119
  go_wp2_with fail
  exact bodyPost_ret (v := .agg #[.int .i64 1, .int .i64 0]) (by simp [results, Tryz.results119, go_sem]) rfl ⟨rfl, bel2 _ _ _⟩
 ·
  have h1' : ((n : Int) == 0) = false := by simp; omega
  by_cases h2 : 100 < n
  ·
   clear h h1
   go_enter Tryz.func119, Tryz.ntmps119
   go_wp2_with fail
   exact bodyPost_ret (v := .agg #[.int .i64 1, .int .i64 0]) (by simp [results, Tryz.results119, go_sem]) rfl ⟨rfl, bel2 _ _ _⟩
  ·
   have h3 : 120 < m := by omega
   have h2' : decide (100 < (n : Int)) = false := by simp; omega
   clear h h1 h2
   go_enter Tryz.func119, Tryz.ntmps119
   go_wp2_with fail
   exact bodyPost_ret (v := .agg #[.int .i64 1, .int .i64 0]) (by simp [results, Tryz.results119, go_sem]) rfl ⟨rfl, bel2 _ _ _⟩
end Go.Proofs.YtjhmaofjmalglaaGreat
