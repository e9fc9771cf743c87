import Derived.Test.YtjhmaofjmalglaaGreatZae
namespace Go.Proofs.YtjhmaofjmalglaaGreat
open Go.RowKit
theorem belS2 {w wr : World} (hB : Below w.heap.size w wr) (v0 v1 : Value) : Below w.heap.size w ((wr.setCell ⟨w.heap.size + 1, 0, none⟩ v0).setCell ⟨w.heap.size + 1, 1, none⟩ v1) :=
 (hB.setCell (p := ⟨w.heap.size + 1, 0, none⟩) (by show w.heap.size ≤ w.heap.size + 1; omega) v0).setCell (p := ⟨w.heap.size + 1, 1, none⟩) (by show w.heap.size ≤ w.heap.size + 1; omega) v1
theorem belS2a {w wr : World} (hB : Below w.heap.size w wr) (v0 v1 : Value) (o : Obj) : Below w.heap.size w (((wr.setCell ⟨w.heap.size + 1, 0, none⟩ v0).setCell ⟨w.heap.size + 1, 1, none⟩ v1).alloc o) :=
 (belS2 hB v0 v1).alloc (belS2 hB v0 v1).size o
def JDone (n m : Nat) (J : Nat → Jt) (cd : Nat) : Prop := (4 ≤ cd → ∀ q, q < m → endsBad n (J q) = false) ∧ (5 ≤ cd → ∀ q, q < m → nameBad J q = false)
theorem jc_3 {n : Nat} {J : Nat → Jt} {q : Nat} : jcode n J q = 3 ↔ endsBad n (J q) = true := by
 unfold jcode
 cases h1 : endsBad n (J q) <;> cases h2 : nameBad J q <;> simp
theorem jc_4 {n : Nat} {J : Nat → Jt} {q : Nat} (h : endsBad n (J q) = false) : jcode n J q = 4 ↔ nameBad J q = true := by
 unfold jcode
 cases h2 : nameBad J q <;> simp [h]
theorem jc_hit {n m : Nat} {P : Nat → Pc} {J : Nat → Jt} {cd q : Nat} (h : netF n P m J = stage3 n m J) (h3 : 3 ≤ cd) (h4 : cd ≤ 4) (hd : JDone n m J cd) (hq : q < m) (ha : ∀ j, j < q → ¬ jcode n J j = (cd : Int)) (hv : jcode n J q = (cd : Int)) :
  netF n P m J = ((cd : Int), (q : Int)) := by
 rw [h]
 rcases (show cd = 3 ∨ cd = 4 by omega) with rfl | rfl
 ·
  refine s3_hit hq (fun j hj => ?_) (jc_3.1 hv)
  have := ha j hj
  rw [show ((3 : Nat) : Int) = 3 from rfl, jc_3] at this
  simpa using this
 ·
  have he := hd.1 (by omega)
  rw [s3_none he]
  refine s4_hit hq (fun j hj => ?_) ((jc_4 (he q hq)).1 hv)
  have := ha j hj
  rw [show ((4 : Nat) : Int) = 4 from rfl, jc_4 (he j (by omega))] at this
  simpa using this
theorem jc_next {n m : Nat} {J : Nat → Jt} {cd : Nat} (h3 : 3 ≤ cd) (h4 : cd ≤ 4) (hd : JDone n m J cd) (ha : ∀ j, j < m → ¬ jcode n J j = (cd : Int)) : JDone n m J (cd + 1) := by
 rcases (show cd = 3 ∨ cd = 4 by omega) with rfl | rfl
 ·
  refine ⟨fun _ q hq => ?_, fun h => absurd h (by omega)⟩
  have := ha q hq
  rw [show ((3 : Nat) : Int) = 3 from rfl, jc_3] at this
  simpa using this
 ·
  refine ⟨fun _ => hd.1 (by omega), fun _ q hq => ?_⟩
  have := ha q hq
  rw [show ((4 : Nat) : Int) = 4 from rfl, jc_4 (hd.1 (by omega) q hq)] at this
  simpa using this
theorem snoc_ne {f : Nat → Int} {k : Nat} {c : Int} (h : ∀ q, q < k → ¬ f q = c) (hk : ¬ f k = c) : ∀ q, q < k + 1 → ¬ f q = c := by
 intro q hq
 by_cases e : q = k
 ·
  subst e; exact hk
 ·
  exact h q (by omega)
theorem side_hit {J : Nat → Jt} {m k s : Nat} (hs : s < 2) (h : ¬ cntJ J ⟨(k : Int), (s : Int)⟩ m = 1) : looseBad J m k = true := by
 rcases (show s = 0 ∨ s = 1 by omega) with rfl | rfl
 ·
  simp only [looseBad]
  have h' : ¬ cntJ J ⟨(k : Int), 0⟩ m = 1 := h
  simp [h']
 ·
  simp only [looseBad]
  have h' : ¬ cntJ J ⟨(k : Int), 1⟩ m = 1 := h
  simp [h']
theorem side_all {J : Nat → Jt} {m k : Nat} (h : ∀ s : Nat, s < 2 → cntJ J ⟨(k : Int), (s : Int)⟩ m = 1) : looseBad J m k = false := by
 have h0 : cntJ J ⟨(k : Int), 0⟩ m = 1 := h 0 (by omega)
 have h1 : cntJ J ⟨(k : Int), 1⟩ m = 1 := h 1 (by omega)
 simp [looseBad, h0, h1]
set_option maxRecDepth 100000 in
set_option maxHeartbeats 4000000 in
theorem spec6_2 (pa : Option Addr) (n pc : Nat) (P : Nat → Pc) (ja : Option Addr) (m jc : Nat) (J : Nat → Jt) (w : World) (h : ¬ (n = 0 ∨ 100 < n ∨ 120 < m))
  (hP : PsAt 0 w pa n P) (hJ : JsAt 0 w ja m J) (hps : ∀ i, i < n → (P i).nm.size ≤ maxLen) (hjs : ∀ i, i < m → (J i).ne ≤ 1048576 ∧ (J i).nm.size ≤ maxLen) :
  Calls Tryz.prog 119 #[.agg #[.slice pa n pc, .slice ja m jc]] w fun r w' => r = .returned (.agg #[.int .i64 (netF n P m J).1, .int .i64 (netF n P m J).2]) ∧ Below w.heap.size w w' := by
 have hn1 : 1 ≤ n := by omega
 have hn2 : n ≤ 100 := by omega
 have hm2 : m ≤ 120 := by omega
 have h1' : ((n : Int) == 0) = false := by simp; omega
 have h2' : decide (100 < (n : Int)) = false := by simp; omega
 have h3' : decide (120 < (m : Int)) = false := by simp; omega
 have Hps : Hid (∀ i, i < n → (P i).nm.size ≤ maxLen) := hps
 have Hjs : Hid (∀ i, i < m → (J i).ne ≤ 1048576 ∧ (J i).nm.size ≤ maxLen) := hjs
 clear hps hjs
 obtain ⟨b, off, rfl, _, hb, hc0⟩ := hP (by omega)
 have Hc : Hid (∀ i, i < n → w.cell? ⟨b, off + i * 4, none⟩ = some (.string (P i).nm) ∧ w.cell? ⟨b, off + i * 4 + 1, none⟩ = some (.int .i64 (P i).ln) ∧
  w.cell? ⟨b, off + i * 4 + 2, none⟩ = some (.int .i64 (P i).sp) ∧ w.cell? ⟨b, off + i * 4 + 3, none⟩ = some (.int .i64 (P i).br)) := hc0
 clear hc0 hP
 go_enter Tryz.func119, Tryz.ntmps119
 go_wp2_with fail
 go_loopw [30] (fun i wr => ∃ k : Nat, k ≤ n ∧ i = .int .i64 k ∧ Hid (∀ q, q < k → pieceBad P q = false) ∧ Below (w.heap.size + 1 + 1) (X6 w (some ⟨b, off, none⟩) n pc ja m jc) wr) (fun i _ => n - (intOf i).toNat)
 case atStart => exact ⟨0, Nat.zero_le _, rfl, fun j hj => absurd hj (Nat.not_lt_zero _), Below.refl _ _⟩
 case round =>
  obtain ⟨k, hk, rfl, hall, hbel⟩ := hrel
  obtain ⟨z0, z1, y0, y1, r0, r1, f0, f1, hB⟩ := facts6 hbel
  by_cases hlt : k < n
  ·
   have hsk := Hps.out k hlt
   obtain ⟨c0', c1', c2', c3'⟩ := Hc.out k hlt
   have c0 := (hB.cell (p := ⟨b, off + k * 4, none⟩) hb).trans c0'
   have c1 := (hB.cell (p := ⟨b, off + k * 4 + 1, none⟩) hb).trans c1'
   have c2 := (hB.cell (p := ⟨b, off + k * 4 + 2, none⟩) hb).trans c2'
   have c3 := (hB.cell (p := ⟨b, off + k * 4 + 3, none⟩) hb).trans c3'
   clear c0' c1' c2' c3'
   cases n1 : nameB (P k).nm
   ·
    have Hv : Hid (netF n P m J = (2, (k : Int))) := netF_2 h hlt hall.out (by simp [pieceBad, n1])
    clear hall h
    go_wp2_with (first | (go_at_call 138; refine (name18 _ _ hsk).mono ?_; rintro e wr ⟨rfl, rfl⟩) | (go_at_call 139; refine (in19 _ _ _ _).mono ?_; rintro e wr ⟨rfl, rfl⟩))
    exact bodyPost_ret (v := .agg #[.int .i64 2, .int .i64 k]) (by simp [results, Tryz.results119, go_sem, r0, r1, z1]) rfl ⟨by rw [Hv.out], belS2a hB _ _ _⟩
   cases i1 : inB (P k).ln 1 10000000
   ·
    have Hv : Hid (netF n P m J = (2, (k : Int))) := netF_2 h hlt hall.out (by simp [pieceBad, n1, i1])
    clear hall h
    go_wp2_with (first | (go_at_call 138; refine (name18 _ _ hsk).mono ?_; rintro e wr ⟨rfl, rfl⟩) | (go_at_call 139; refine (in19 _ _ _ _).mono ?_; rintro e wr ⟨rfl, rfl⟩))
    exact bodyPost_ret (v := .agg #[.int .i64 2, .int .i64 k]) (by simp [results, Tryz.results119, go_sem, r0, r1, z1]) rfl ⟨by rw [Hv.out], belS2a hB _ _ _⟩
   cases i2 : inB (P k).sp 1 10000
   ·
    have Hv : Hid (netF n P m J = (2, (k : Int))) := netF_2 h hlt hall.out (by simp [pieceBad, n1, i1, i2])
    clear hall h
    go_wp2_with (first | (go_at_call 138; refine (name18 _ _ hsk).mono ?_; rintro e wr ⟨rfl, rfl⟩) | (go_at_call 139; refine (in19 _ _ _ _).mono ?_; rintro e wr ⟨rfl, rfl⟩))
    exact bodyPost_ret (v := .agg #[.int .i64 2, .int .i64 k]) (by simp [results, Tryz.results119, go_sem, r0, r1, z1]) rfl ⟨by rw [Hv.out], belS2a hB _ _ _⟩
   cases i3 : inB (P k).br 1 1000
   ·
    have Hv : Hid (netF n P m J = (2, (k : Int))) := netF_2 h hlt hall.out (by simp [pieceBad, n1, i1, i2, i3])
    clear hall h
    go_wp2_with (first | (go_at_call 138; refine (name18 _ _ hsk).mono ?_; rintro e wr ⟨rfl, rfl⟩) | (go_at_call 139; refine (in19 _ _ _ _).mono ?_; rintro e wr ⟨rfl, rfl⟩))
    exact bodyPost_ret (v := .agg #[.int .i64 2, .int .i64 k]) (by simp [results, Tryz.results119, go_sem, r0, r1, z1]) rfl ⟨by rw [Hv.out], belS2a hB _ _ _⟩
   have Hd : Hid (pieceBad P k = dupN (fun q => (P q).nm) (P k).nm k) := by
    show pieceBad P k = _
    simp [pieceBad, n1, i1, i2, i3]
   go_wp2_with (first | (go_at_call 138; refine (name18 _ _ hsk).mono ?_; rintro e wr ⟨rfl, rfl⟩) | (go_at_call 139; refine (in19 _ _ _ _).mono ?_; rintro e wr ⟨rfl, rfl⟩))
   clear c0 c1 c2 c3 n1 i1 i2 i3 y0 y1 r0 r1 f0 f1 hsk
   obtain ⟨wo, hwo⟩ : ∃ wo : World, wo = wr := ⟨_, rfl⟩
   subst hwo
   go_loopw [5] (fun i wr => ∃ q : Nat, q ≤ k ∧ i = .int .i64 q ∧ Hid (∀ j, j < q → ((P j).nm.toList == (P k).nm.toList) = false) ∧
     Below (wo.heap.size + 1) (wo.alloc (.cells #[.string (P k).nm, .int .i64 (P k).ln, .int .i64 (P k).sp, .int .i64 (P k).br] 82)) wr) (fun i _ => k - (intOf i).toNat)
   case atStart => exact ⟨0, Nat.zero_le _, rfl, fun j hj => absurd hj (Nat.not_lt_zero _), Below.refl _ _⟩
   case round =>
    obtain ⟨q, hq, rfl, hall2, hbel2⟩ := hrel
    have hb2 : Below wo.heap.size wo wr := (bel1 wo _).trans (hbel2.mono (by omega))
    have hbelN := hbel.trans (hb2.mono (by omega))
    have p0 : wr.cell? ⟨wo.heap.size, 0, none⟩ = some (.string (P k).nm) := by rw [hbel2.cell (by show wo.heap.size < _; omega), World.cell?_alloc_at _ _ _ _ (by simp)]; rfl
    have zz : wo.heap.size < wr.heap.size := by have := hbel2.size; simp at this; omega
    clear z0 z1 hB
    obtain ⟨z0, z1, y0, y1, r0, r1, f0, f1, hB⟩ := facts6 hbelN
    by_cases hlq : q < k
    ·
     have d0 := (hB.cell (p := ⟨b, off + q * 4, none⟩) hb).trans (Hc.out q (by omega)).1
     have hq0 : (0 : Int) ≤ (q : Int) := by omega
     have hqn : (q : Int) < (n : Int) := by omega
     cases h5 : ((P q).nm.toList == (P k).nm.toList)
     ·
      have Hall : Hid (∀ j, j < q + 1 → ((P j).nm.toList == (P k).nm.toList) = false) := snoc_all hall2.out h5
      clear hall2
      go_wp2_with fail
      go_quiet (fail)
      go_wp2_with fail
      go_roundw
      case rel => exact ⟨q + 1, by omega, by go_num, Hall, below_drewN hbel2 _⟩
      case measure => simp [intOf]; omega
     ·
      have Hv : Hid (netF n P m J = (2, (k : Int))) := netF_2 h hlt hall.out (by rw [Hd.out]; exact dupN_true hlq h5)
      clear hall2 hall h
      go_wp2_with fail
      go_quiet (fail)
      go_wp2_with fail
      exact bodyPost_ret (v := .agg #[.int .i64 2, .int .i64 k]) (by simp [results, Tryz.results119, go_sem, r0, r1]) rfl ⟨by rw [Hv.out], belS2 (below_drewN hB _) _ _⟩
    ·
     obtain rfl : q = k := by omega
     have Hall : Hid (∀ j, j < q + 1 → pieceBad P j = false) := snoc_all hall.out (by rw [Hd.out]; exact dupN_false hall2.out)
     clear hall2 hall
     go_wp2_with fail
     go_roundw
     case rel => exact ⟨q + 1, by omega, by go_num, Hall, hbelN⟩
     case measure => simp [intOf]; omega
  ·
   obtain rfl : k = n := by omega
   have Hs : Hid (netF k P m J = stage3 k m J) := netF_s3 h hall.out
   clear hall h Hc Hps hb
   go_wp2_with fail
   clear z0 z1 y0 y1 r0 r1 f0 f1 hB
   obtain ⟨wo, hwo⟩ : ∃ wo : World, wo = wr := ⟨_, rfl⟩
   subst hwo
   go_loopw [6] (fun c wr => ∃ cd : Nat, 3 ≤ cd ∧ cd ≤ 5 ∧ c = .int .i64 cd ∧ Hid (JDone k m J cd) ∧ Below (w.heap.size + 1 + 1) (X6 w (some ⟨b, off, none⟩) k pc ja m jc) wr) (fun c _ => 5 - (intOf c).toNat)
   case atStart => exact ⟨3, by omega, by omega, rfl, ⟨fun h => absurd h (by omega), fun h => absurd h (by omega)⟩, hbel⟩
   case round =>
    obtain ⟨cd, hc3, hc5, rfl, hdone, hbel3⟩ := hrel
    clear hbel
    by_cases hc4 : cd ≤ 4
    ·
     have hc4' : decide ((cd : Int) ≤ 4) = true := by simp; omega
     obtain ⟨z0, z1, y0, y1, r0, r1, f0, f1, hB⟩ := facts6 hbel3
     go_wp2_with fail
     clear z0 z1 y0 y1 r0 r1 f0 f1 hB
     obtain ⟨wo, hwo⟩ : ∃ wo : World, wo = wr := ⟨_, rfl⟩
     subst hwo
     go_loopw [83] (fun i wr => ∃ q : Nat, q ≤ m ∧ i = .int .i64 q ∧ Hid (∀ j, j < q → ¬ jcode k J j = (cd : Int)) ∧ Below (w.heap.size + 1 + 1) (X6 w (some ⟨b, off, none⟩) k pc ja m jc) wr) (fun i _ => m - (intOf i).toNat)
     case atStart => exact ⟨0, Nat.zero_le _, rfl, fun j hj => absurd hj (Nat.not_lt_zero _), hbel3⟩
     case round =>
      obtain ⟨q, hq, rfl, hall, hbel4⟩ := hrel
      obtain ⟨z0, z1, y0, y1, r0, r1, f0, f1, hB⟩ := facts6 hbel4
      by_cases hlq : q < m
      ·
       have hJ4 := hJ.mono (Nat.le_refl _) hB (Nat.le_refl _)
       by_cases hv : jcode k J q = (cd : Int)
       ·
        have hvb : (jcode k J q == (cd : Int)) = true := by simp [hv]
        have Hv : Hid (netF k P m J = ((cd : Int), (q : Int))) := jc_hit Hs.out hc3 hc4 hdone.out hlq hall.out hv
        clear hall hv hdone
        go_wp2_with fail
        refine (l11joint20 (some ⟨b, off, none⟩) k pc ja m jc J q _ (by omega) (by omega) hlq hJ4 Hjs.out).mono ?_
        rintro e w1 ⟨rfl, hb1⟩
        have hbel5 := hbel4.trans (hb1.mono (by omega))
        clear z0 z1 y0 y1 r0 r1 f0 f1 hB hb1 hJ4
        obtain ⟨z0, z1, y0, y1, r0, r1, f0, f1, hB⟩ := facts6 hbel5
        go_wp2_with fail
        exact bodyPost_ret (v := .agg #[.int .i64 cd, .int .i64 q]) (by simp [results, Tryz.results119, go_sem, r0, r1]) rfl ⟨by rw [Hv.out], belS2 hB _ _⟩
       ·
        have hvb : (jcode k J q == (cd : Int)) = false := by simp [hv]
        have Hall : Hid (∀ j, j < q + 1 → ¬ jcode k J j = (cd : Int)) := snoc_ne hall.out hv
        clear hall hv
        go_wp2_with fail
        refine (l11joint20 (some ⟨b, off, none⟩) k pc ja m jc J q _ (by omega) (by omega) hlq hJ4 Hjs.out).mono ?_
        rintro e w1 ⟨rfl, hb1⟩
        have hbel5 := hbel4.trans (hb1.mono (by omega))
        clear z0 z1 y0 y1 r0 r1 f0 f1 hB hb1 hJ4
        go_wp2_with fail
        go_roundw
        case rel => first | exact ⟨q + 1, by omega, by go_num, Hall, hbel5⟩ | ((repeat apply Exists.intro); exact ⟨⟨q + 1, by omega, by go_num, Hall, hbel5⟩, rfl⟩)
        case measure => simp [intOf]; omega
      ·
       obtain rfl : q = m := by omega
       have Hd : Hid (JDone k q J (cd + 1)) := jc_next hc3 hc4 hdone.out hall.out
       clear hall hdone z0 z1 y0 y1 r0 r1 f0 f1
       go_wp2_with fail
       go_roundw
       case rel => exact ⟨cd + 1, by omega, by omega, by go_num, Hd, hbel4⟩
       case measure => simp [intOf]; omega
    ·
     obtain rfl : cd = 5 := by omega
     have Hs5 : Hid (netF k P m J = stage5 k m J) := by
      show netF k P m J = _
      rw [Hs.out, s3_none (hdone.out.1 (by omega)), s4_none (hdone.out.2 (by omega))]
     clear hdone Hs
     obtain ⟨z0, z1, y0, y1, r0, r1, f0, f1, hB⟩ := facts6 hbel3
     go_wp2_with fail
     clear z0 z1 y0 y1 r0 r1 f0 f1 hB
     obtain ⟨wo, hwo⟩ : ∃ wo : World, wo = wr := ⟨_, rfl⟩
     subst hwo
     go_loopw [98] (fun i wr => ∃ p : Nat, p ≤ k ∧ i = .int .i64 p ∧ Hid (∀ q, q < p → looseBad J m q = false) ∧ Below (w.heap.size + 1 + 1) (X6 w (some ⟨b, off, none⟩) k pc ja m jc) wr) (fun i _ => k - (intOf i).toNat)
     case atStart => exact ⟨0, Nat.zero_le _, rfl, fun j hj => absurd hj (Nat.not_lt_zero _), hbel3⟩
     case round =>
      obtain ⟨p, hp, rfl, hall, hbel4⟩ := hrel
      clear hbel3
      by_cases hlp : p < k
      ·
       go_wp2_with fail
       obtain ⟨wo, hwo⟩ : ∃ wo : World, wo = wr := ⟨_, rfl⟩
       subst hwo
       go_loopw [9] (fun i wr => ∃ s : Nat, s ≤ 2 ∧ i = .int .i64 s ∧ Hid (∀ t, t < s → cntJ J ⟨(p : Int), (t : Int)⟩ m = 1) ∧ Below (w.heap.size + 1 + 1) (X6 w (some ⟨b, off, none⟩) k pc ja m jc) wr) (fun i _ => 2 - (intOf i).toNat)
       case atStart => exact ⟨0, Nat.zero_le _, rfl, fun j hj => absurd hj (Nat.not_lt_zero _), hbel4⟩
       case round =>
        obtain ⟨s, hs, rfl, hall2, hbel5⟩ := hrel
        clear hbel4
        obtain ⟨z0, z1, y0, y1, r0, r1, f0, f1, hB⟩ := facts6 hbel5
        by_cases hls : s < 2
        ·
         have hJ4 := hJ.mono (Nat.le_refl _) hB (Nat.le_refl _)
         by_cases hv : cntJ J ⟨(p : Int), (s : Int)⟩ m = 1
         ·
          have hvb : (((cntJ J ⟨(p : Int), (s : Int)⟩ m : Nat) : Int) != 1) = false := by simp; omega
          have Hall : Hid (∀ t, t < s + 1 → cntJ J ⟨(p : Int), (t : Int)⟩ m = 1) := by
           intro t ht
           by_cases e : t = s
           ·
            subst e; exact hv
           ·
            exact hall2.out t (by omega)
          clear hall2 hv
          go_wp2_with fail
          refine (l11uses21 (some ⟨b, off, none⟩) k pc ja m jc J ⟨(p : Int), (s : Int)⟩ _ (by omega) hJ4 (fun i hi => (Hjs.out i hi).1)).mono ?_
          rintro e w1 ⟨rfl, hb1⟩
          have hbel6 := hbel5.trans (hb1.mono (by omega))
          clear z0 z1 y0 y1 r0 r1 f0 f1 hB hb1 hJ4
          go_wp2_with fail
          go_roundw
          case rel => first | exact ⟨s + 1, by omega, by go_num, Hall, hbel6⟩ | ((repeat apply Exists.intro); exact ⟨⟨s + 1, by omega, by go_num, Hall, hbel6⟩, rfl⟩)
          case measure => simp [intOf]; omega
         ·
          have hvb : (((cntJ J ⟨(p : Int), (s : Int)⟩ m : Nat) : Int) != 1) = true := by simp; omega
          have Hv : Hid (netF k P m J = (5, (p : Int))) := by
           show netF k P m J = _
           rw [Hs5.out]
           exact s5_hit hlp hall.out (side_hit hls hv)
          clear hall2 hv hall
          go_wp2_with fail
          refine (l11uses21 (some ⟨b, off, none⟩) k pc ja m jc J ⟨(p : Int), (s : Int)⟩ _ (by omega) hJ4 (fun i hi => (Hjs.out i hi).1)).mono ?_
          rintro e w1 ⟨rfl, hb1⟩
          have hbel6 := hbel5.trans (hb1.mono (by omega))
          clear z0 z1 y0 y1 r0 r1 f0 f1 hB hb1 hJ4
          obtain ⟨z0, z1, y0, y1, r0, r1, f0, f1, hB⟩ := facts6 hbel6
          go_wp2_with fail
          exact bodyPost_ret (v := .agg #[.int .i64 5, .int .i64 p]) (by simp [results, Tryz.results119, go_sem, r0, r1]) rfl ⟨by rw [Hv.out], belS2 hB _ _⟩
        ·
         obtain rfl : s = 2 := by omega
         have Hall : Hid (∀ q, q < p + 1 → looseBad J m q = false) := snoc_all hall.out (side_all hall2.out)
         clear hall2 hall z0 z1 y0 y1 r0 r1 f0 f1
         go_wp2_with fail
         go_roundw
         case rel => exact ⟨p + 1, by omega, by go_num, Hall, hbel5⟩
         case measure => simp [intOf]; omega
      ·
       obtain rfl : p = k := by omega
       have Hv : Hid (netF p P m J = (0, 0)) := by
        show netF p P m J = _
        rw [Hs5.out, s5_none hall.out]
       clear hall Hs5
       obtain ⟨z0, z1, y0, y1, r0, r1, f0, f1, hB⟩ := facts6 hbel4
       go_wp2_with fail
       exact bodyPost_ret (v := .agg #[.int .i64 0, .int .i64 0]) (by simp [results, Tryz.results119, go_sem, r0, r1]) rfl ⟨by rw [Hv.out], belS2 hB _ _⟩
end Go.Proofs.YtjhmaofjmalglaaGreat
