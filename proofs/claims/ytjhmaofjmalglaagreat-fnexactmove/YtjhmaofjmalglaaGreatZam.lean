import Derived.Test.YtjhmaofjmalglaaGreatZai
import Derived.Test.YtjhmaofjmalglaaGreatZak
import Derived.Test.YtjhmaofjmalglaaGreatZal
namespace Go.Proofs.YtjhmaofjmalglaaGreat
open Go.RowKit
set_option maxHeartbeats 4000000 in
theorem impl8_1 (pa : Option Addr) (n pc : Nat) (P : Nat → Pc) (ja : Option Addr) (m jc : Nat) (J : Nat → Jt) (w : World) (hn : n ≤ 1048576) (hm : m ≤ 1048576) (h : n = 0 ∨ 100 < n ∨ 120 < m) :
  Calls Tryz.prog 83 #[.agg #[.slice pa n pc, .slice ja m jc]] w fun r w' => r = .returned (.agg #[.int .i64 (netF n P m J).1, .int .i64 (netF n P m J).2]) ∧ Below w.heap.size w w' := by
 rw [netF_1 h]
 by_cases h1 : n = 0
 ·
  subst h1
  go_enter Tryz.func83, Tryz.ntmps83
  go_wp2_with fail
  exact bodyPost_ret (v := .agg #[.int .i64 1, .int .i64 0]) (by simp [results, Tryz.results83, go_sem]) rfl ⟨rfl, bel2 _ _ _⟩
 ·
  have h1' : ((n : Int) == 0) = false := by simp; omega
  by_cases h2 : 100 < n
  ·
   clear h h1
   go_enter Tryz.func83, Tryz.ntmps83
   go_wp2_with fail
   exact bodyPost_ret (v := .agg #[.int .i64 1, .int .i64 0]) (by simp [results, Tryz.results83, go_sem]) rfl ⟨rfl, bel2 _ _ _⟩
  ·
   have h3 : 120 < m := by omega
   have h2' : decide (100 < (n : Int)) = false := by simp; omega
   clear h h1 h2
   go_enter Tryz.func83, Tryz.ntmps83
   go_wp2_with fail
   exact bodyPost_ret (v := .agg #[.int .i64 1, .int .i64 0]) (by simp [results, Tryz.results83, go_sem]) rfl ⟨rfl, bel2 _ _ _⟩
theorem ends_of {n : Nat} {j : Jt} (h : endsBad n j = false) : inB j.kd 1 4 = true ∧ ∀ q, q < j.ne → endB n (j.E q) = true := by
 simp only [endsBad, Bool.or_eq_false_iff, Bool.not_eq_eq_eq_not, Bool.not_false] at h
 refine ⟨h.1.1, fun q hq => ?_⟩
 cases hb : endB n (j.E q)
 ·
  have := allE_false (E := j.E) (n := n) hq hb
  rw [h.2] at this
  exact this.symm
 ·
  rfl
set_option maxRecDepth 100000 in
set_option maxHeartbeats 4000000 in
theorem impl8_2 (pa : Option Addr) (n pc : Nat) (P : Nat → Pc) (ja : Option Addr) (m jc : Nat) (J : Nat → Jt) (w : World) (h : ¬ (n = 0 ∨ 100 < n ∨ 120 < m)) (hpc : n ≤ pc) (hpm : pc ≤ maxLen) (hjc : m ≤ jc) (hjm : jc ≤ maxLen)
  (hP : PsAt 0 w pa n P) (hJ : JsAt 0 w ja m J) (hps : ∀ i, i < n → (P i).nm.size ≤ maxLen) (hjs : ∀ i, i < m → (J i).ne ≤ 1048576 ∧ (J i).nm.size ≤ maxLen) :
  Calls Tryz.prog 83 #[.agg #[.slice pa n pc, .slice ja m jc]] w fun r w' => r = .returned (.agg #[.int .i64 (netF n P m J).1, .int .i64 (netF n P m J).2]) ∧ Below w.heap.size w w' := by
 have hn1 : 1 ≤ n := by omega
 have hn2 : n ≤ 100 := by omega
 have hm2 : m ≤ 120 := by omega
 have h1' : ((n : Int) == 0) = false := by simp; omega
 have h2' : decide (100 < (n : Int)) = false := by simp; omega
 have h3' : decide (120 < (m : Int)) = false := by simp; omega
 have Hps : Hid (∀ i, i < n → (P i).nm.size ≤ maxLen) := hps
 have Hjs : Hid (∀ i, i < m → (J i).ne ≤ 1048576 ∧ (J i).nm.size ≤ maxLen) := hjs
 clear hps hjs
 go_enter Tryz.func83, Tryz.ntmps83
 go_wp2_with fail
 go_loopw [26] (fun i wr => ∃ k : Nat, k ≤ n ∧ i = .int .i64 k ∧ Hid (∀ q, q < k → pieceBad P q = false) ∧ Below (w.heap.size + 1 + 1) (X6 w pa n pc ja m jc) wr) (fun i _ => n - (intOf i).toNat)
 case atStart => exact ⟨0, Nat.zero_le _, rfl, fun j hj => absurd hj (Nat.not_lt_zero _), Below.refl _ _⟩
 case round =>
  obtain ⟨k, hk, rfl, hall, hbel⟩ := hrel
  obtain ⟨z0, z1, y0, y1, r0, r1, f0, f1, hB⟩ := facts6 hbel
  by_cases hlt : k < n
  ·
   have hP4 := hP.mono (Nat.le_refl _) hB (Nat.le_refl _)
   cases hv : pieceBad P k
   ·
    have Hall : Hid (∀ q, q < k + 1 → pieceBad P q = false) := snoc_all hall.out hv
    clear hall
    go_wp2_with fail
    refine (pieceOk24 pa n pc P k _ (by omega) hpc hpm hlt hP4 (Hps.out k hlt)).mono ?_
    rintro e w1 ⟨rfl, hb1⟩
    have hbel5 := hbel.trans (hb1.mono (by omega))
    clear z0 z1 y0 y1 r0 r1 f0 f1 hB hb1 hP4
    go_wp2_with fail
    go_roundw
    case rel => first | exact ⟨k + 1, by omega, by go_num, Hall, hbel5⟩ | ((repeat apply Exists.intro); exact ⟨⟨k + 1, by omega, by go_num, Hall, hbel5⟩, rfl⟩)
    case measure => simp [intOf]; omega
   ·
    have Hv : Hid (netF n P m J = (2, (k : Int))) := netF_2 h hlt hall.out hv
    clear hall h
    go_wp2_with fail
    refine (pieceOk24 pa n pc P k _ (by omega) hpc hpm hlt hP4 (Hps.out k hlt)).mono ?_
    rintro e w1 ⟨rfl, hb1⟩
    have hbel5 := hbel.trans (hb1.mono (by omega))
    clear z0 z1 y0 y1 r0 r1 f0 f1 hB hb1 hP4
    obtain ⟨z0, z1, y0, y1, r0, r1, f0, f1, hB⟩ := facts6 hbel5
    go_wp2_with fail
    exact bodyPost_ret (v := .agg #[.int .i64 2, .int .i64 k]) (by simp [results, Tryz.results83, go_sem, r0, r1]) rfl ⟨by rw [Hv.out], belS2 hB _ _⟩
  ·
   obtain rfl : k = n := by omega
   have Hs : Hid (netF k P m J = stage3 k m J) := netF_s3 h hall.out
   clear hall h Hps
   go_wp2_with fail
   clear z0 z1 y0 y1 r0 r1 f0 f1 hB
   obtain ⟨wo, hwo⟩ : ∃ wo : World, wo = wr := ⟨_, rfl⟩
   subst hwo
   go_loopw [40] (fun i wr => ∃ q : Nat, q ≤ m ∧ i = .int .i64 q ∧ Hid (∀ j, j < q → endsBad k (J j) = false) ∧ Below (w.heap.size + 1 + 1) (X6 w pa k pc ja m jc) wr) (fun i _ => m - (intOf i).toNat)
   case atStart => exact ⟨0, Nat.zero_le _, rfl, fun j hj => absurd hj (Nat.not_lt_zero _), hbel⟩
   case round =>
    obtain ⟨q, hq, rfl, hall, hbel3⟩ := hrel
    clear hbel
    obtain ⟨z0, z1, y0, y1, r0, r1, f0, f1, hB⟩ := facts6 hbel3
    by_cases hlq : q < m
    ·
     obtain ⟨b, off, rfl, _, hb, hc⟩ := (hJ.mono (Nat.le_refl _) hB.drew (Nat.le_refl _)) (by omega)
     obtain ⟨ea, ec, c0, c1, c2, hE⟩ := hc q hlq
     have hq0 : (0 : Int) ≤ (q : Int) := by omega
     have hqm : (q : Int) < (m : Int) := by omega
     have hnq := (Hjs.out q hlq).1
     clear hc
     have c00 : wr.cell? _ = _ := c0
     have c10 : wr.cell? _ = _ := c1
     have c20 : wr.cell? _ = _ := c2
     clear c0 c1 c2
     cases hv : endsBad k (J q)
     ·
      have Hall : Hid (∀ j, j < q + 1 → endsBad k (J j) = false) := snoc_all (p := fun j => endsBad k (J j)) hall.out hv
      clear hall
      go_wp2_with fail
      go_region_with (go_at_call 122; refine (endsOk25 pa k pc (some ⟨b, off, none⟩) m jc (J q) ea ec _ (by omega) hnq hE).mono ?_; rintro e w1 ⟨rfl, hb1⟩)
      all_goals
       go_wp2_with fail
       go_roundw
       case rel => exact ⟨q + 1, by omega, by go_num, Hall, hbel3.drew.trans (hb1.mono (show w.heap.size + 1 + 1 ≤ wr.heap.size by omega))⟩
       case measure => simp [intOf]; omega
     ·
      have Hv : Hid (netF k P m J = (3, (q : Int))) := by
       show netF k P m J = _
       rw [Hs.out]
       exact s3_hit hlq hall.out hv
      clear hall
      go_wp2_with fail
      go_region_with (go_at_call 122; refine (endsOk25 pa k pc (some ⟨b, off, none⟩) m jc (J q) ea ec _ (by omega) hnq hE).mono ?_; rintro e w1 ⟨rfl, hb1⟩)
      all_goals
       have hbel5 := hbel3.drew.trans (hb1.mono (show w.heap.size + 1 + 1 ≤ wr.heap.size by omega))
       clear z0 z1 y0 y1 r0 r1 f0 f1 hB hb1
       obtain ⟨z0, z1, y0, y1, r0, r1, f0, f1, hB⟩ := facts6 hbel5
       go_wp2_with fail
       exact bodyPost_ret (v := .agg #[.int .i64 3, .int .i64 q]) (by simp [results, Tryz.results83, go_sem, r0, r1]) rfl ⟨by rw [Hv.out], belS2 hB _ _⟩
    ·
     obtain rfl : q = m := by omega
     have Hen : Hid (∀ j, j < q → endsBad k (J j) = false) := hall
     have Hs4 : Hid (netF k P q J = stage4 k q J) := by
      show netF k P q J = _
      rw [Hs.out, s3_none hall.out]
     clear hall Hs
     go_wp2_with fail
     clear z0 z1 y0 y1 r0 r1 f0 f1 hB
     obtain ⟨wo, hwo⟩ : ∃ wo : World, wo = wr := ⟨_, rfl⟩
     subst hwo
     go_loopw [57] (fun i wr => ∃ t : Nat, t ≤ q ∧ i = .int .i64 t ∧ Hid (∀ j, j < t → nameBad J j = false) ∧ Below (w.heap.size + 1 + 1) (X6 w pa k pc ja q jc) wr) (fun i _ => q - (intOf i).toNat)
     case atStart => exact ⟨0, Nat.zero_le _, rfl, fun j hj => absurd hj (Nat.not_lt_zero _), hbel3⟩
     case round =>
      obtain ⟨t, ht, rfl, hall, hbel4⟩ := hrel
      clear hbel3
      obtain ⟨z0, z1, y0, y1, r0, r1, f0, f1, hB⟩ := facts6 hbel4
      have hJ4 := hJ.mono (Nat.le_refl _) hB (Nat.le_refl _)
      by_cases hlt2 : t < q
      ·
       cases hv : nameBad J t
       ·
        have Hall : Hid (∀ j, j < t + 1 → nameBad J j = false) := snoc_all hall.out hv
        clear hall
        go_wp2_with fail
        refine (jointNameOk26 ja q jc J t _ (by omega) hjc hjm hlt2 hJ4 (Hjs.out t hlt2).2 (ends_of (Hen.out t hlt2)).1).mono ?_
        rintro e w1 ⟨rfl, hb1⟩
        have hbel5 := hbel4.trans (hb1.mono (by omega))
        clear z0 z1 y0 y1 r0 r1 f0 f1 hB hb1 hJ4
        go_wp2_with fail
        go_roundw
        case rel => first | exact ⟨t + 1, by omega, by go_num, Hall, hbel5⟩ | ((repeat apply Exists.intro); exact ⟨⟨t + 1, by omega, by go_num, Hall, hbel5⟩, rfl⟩)
        case measure => simp [intOf]; omega
       ·
        have Hv : Hid (netF k P q J = (4, (t : Int))) := by
         show netF k P q J = _
         rw [Hs4.out]
         exact s4_hit hlt2 hall.out hv
        clear hall
        go_wp2_with fail
        refine (jointNameOk26 ja q jc J t _ (by omega) hjc hjm hlt2 hJ4 (Hjs.out t hlt2).2 (ends_of (Hen.out t hlt2)).1).mono ?_
        rintro e w1 ⟨rfl, hb1⟩
        have hbel5 := hbel4.trans (hb1.mono (by omega))
        clear z0 z1 y0 y1 r0 r1 f0 f1 hB hb1 hJ4
        obtain ⟨z0, z1, y0, y1, r0, r1, f0, f1, hB⟩ := facts6 hbel5
        go_wp2_with fail
        exact bodyPost_ret (v := .agg #[.int .i64 4, .int .i64 t]) (by simp [results, Tryz.results83, go_sem, r0, r1]) rfl ⟨by rw [Hv.out], belS2 hB _ _⟩
      ·
       obtain rfl : t = q := by omega
       have Hs5 : Hid (netF k P t J = stage5 k t J) := by
        show netF k P t J = _
        rw [Hs4.out, s4_none hall.out]
       clear hall Hs4
       go_wp2_with fail
       refine (loose27 pa k pc ja t jc J _ (by omega) (by omega) hJ4 (fun i hi => (Hjs.out i hi).1) (fun i hi => (ends_of (Hen.out i hi)).2)).mono ?_
       rintro e w1 ⟨rfl, hb1⟩
       have hbel5 := hbel4.trans (hb1.mono (by omega))
       clear z0 z1 y0 y1 r0 r1 f0 f1 hB hb1 hJ4
       obtain ⟨z0, z1, y0, y1, r0, r1, f0, f1, hB⟩ := facts6 hbel5
       go_wp2_with fail
       exact bodyPost_ret (v := .agg #[.int .i64 (stage5 k t J).1, .int .i64 (stage5 k t J).2]) (by simp [results, Tryz.results83, go_sem, r0, r1]) rfl ⟨by rw [Hs5.out], belS2 hB _ _⟩
theorem impl8 (pa : Option Addr) (n pc : Nat) (P : Nat → Pc) (ja : Option Addr) (m jc : Nat) (J : Nat → Jt) (w : World) (hn : n ≤ 1048576) (hm : m ≤ 1048576) (hpc : n ≤ pc) (hpm : pc ≤ maxLen) (hjc : m ≤ jc) (hjm : jc ≤ maxLen)
  (hP : PsAt 0 w pa n P) (hJ : JsAt 0 w ja m J) (hps : ∀ i, i < n → (P i).nm.size ≤ maxLen) (hjs : ∀ i, i < m → (J i).ne ≤ 1048576 ∧ (J i).nm.size ≤ maxLen) :
  Calls Tryz.prog 83 #[.agg #[.slice pa n pc, .slice ja m jc]] w fun r w' => r = .returned (.agg #[.int .i64 (netF n P m J).1, .int .i64 (netF n P m J).2]) ∧ Below w.heap.size w w' := by
 by_cases h : n = 0 ∨ 100 < n ∨ 120 < m
 ·
  exact impl8_1 pa n pc P ja m jc J w hn hm h
 ·
  exact impl8_2 pa n pc P ja m jc J w h hpc hpm hjc hjm hP hJ hps hjs
theorem spec6 (pa : Option Addr) (n pc : Nat) (P : Nat → Pc) (ja : Option Addr) (m jc : Nat) (J : Nat → Jt) (w : World) (hn : n ≤ 1048576) (hm : m ≤ 1048576)
  (hP : PsAt 0 w pa n P) (hJ : JsAt 0 w ja m J) (hps : ∀ i, i < n → (P i).nm.size ≤ maxLen) (hjs : ∀ i, i < m → (J i).ne ≤ 1048576 ∧ (J i).nm.size ≤ maxLen) :
  Calls Tryz.prog 119 #[.agg #[.slice pa n pc, .slice ja m jc]] w fun r w' => r = .returned (.agg #[.int .i64 (netF n P m J).1, .int .i64 (netF n P m J).2]) ∧ Below w.heap.size w w' := by
 by_cases h : n = 0 ∨ 100 < n ∨ 120 < m
 ·
  exact spec6_1 pa n pc P ja m jc J w hn hm h
 ·
  exact spec6_2 pa n pc P ja m jc J w h hP hJ hps hjs
end Go.Proofs.YtjhmaofjmalglaaGreat
