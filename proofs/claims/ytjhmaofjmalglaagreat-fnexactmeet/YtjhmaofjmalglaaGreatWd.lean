import Derived.Test.YtjhmaofjmalglaaGreatWc
import Derived.Test.YtjhmaofjmalglaaGreatTq
import Derived.Test.YtjhmaofjmalglaaGreatTu
namespace Go.Proofs.YtjhmaofjmalglaaGreat
open Go.RowKit Go.Lib

/-- how far it is along a step of a body -/
def heF (v : Nv) (fp fa fw : Int) (B : Nat → Nat → Int) : Nat → Int
  | 0 => hvF v fp fa fw B 0
  | j + 1 => (v.P (B j 0).toNat).ln
/-- where a stretch begins -/
def frF (v : Nv) (fp fa fw lg : Int) (nb : Nat) (B : Nat → Nat → Int) (j : Nat) : Int := if j = nb then hvF v fp fa fw B nb - lg else 0
/-- what is left of a body behind its first steps -/
def lfF (v : Nv) (fp fa fw lg : Int) (nb : Nat) (B : Nat → Nat → Int) (k : Nat) : Int := if k = 0 then lg else if k ≤ nb then lg - hvF v fp fa fw B (k - 1) else 0
/-- the front's own stretch is none -/
def noF (v : Nv) (fp fa fw : Int) (B : Nat → Nat → Int) : Nat := if hvF v fp fa fw B 0 = 0 then 1 else 0
def sgF (v : Nv) (fp fa fw lg : Int) (nb : Nat) (B : Nat → Nat → Int) (j c : Nat) : Int := if c = 0 then ahP fp B j else if c = 1 then ahW fw B j else if c = 2 then frF v fp fa fw lg nb B j else heF v fp fa fw B j
/-- the stretches of a body -/
def stG (v : Nv) (fp fa fw lg : Int) (nb : Nat) (B : Nat → Nat → Int) (i c : Nat) : Int := sgF v fp fa fw lg nb B (i + noF v fp fa fw B) c
/-- what a right train keeps to -/
structure Trn (v : Nv) (fp fa fw lg : Int) (nb : Nat) (B : Nat → Nat → Int) : Prop where
  spot : spotB v fp fa fw = true
  lg0 : 1 ≤ lg
  lg1 : lg ≤ 100000
  nb1 : nb ≤ 200
  step : ∀ i, i < nb → stepB v (B i 0) (B i 1) = true
  lt : ∀ i, i < nb → hvF v fp fa fw B i < lg
  le : lg ≤ hvF v fp fa fw B nb
theorem trn_of {v : Nv} {fp fa fw lg : Int} {nb : Nat} {B : Nat → Nat → Int} (h : trnB v fp fa fw lg nb B = true) : Trn v fp fa fw lg nb B := by
  rw [trnB, Bool.and_eq_true, Bool.and_eq_true, Bool.and_eq_true, Bool.and_eq_true, decide_eq_true_eq, decide_eq_true_eq] at h
  obtain ⟨⟨⟨h2, h5⟩, h3⟩, h4, h6⟩ := h
  simp only [inB, Bool.and_eq_true, decide_eq_true_eq] at h5
  refine ⟨h2, h5.1, h5.2, h3, fun i hi => ?_, fun i hi => ?_, h6⟩
  · have := allT_at h4 i hi
    rw [bkB, Bool.and_eq_true] at this
    exact this.1
  · have := allT_at h4 i hi
    rw [bkB, Bool.and_eq_true, Bool.and_eq_true, decide_eq_true_eq] at this
    exact this.2.1
theorem Trn.sp {v : Nv} {fp fa fw lg : Int} {nb : Nat} {B : Nat → Nat → Int} (h : Trn v fp fa fw lg nb B) : ∀ k, k ≤ nb → ∃ q : Nat, ahP fp B k = (q : Int) ∧ q < v.n ∧ (ahW fw B k = 1 ∨ ahW fw B k = -1)
  | 0, _ => by
    obtain ⟨q, h1, h2, h3, _⟩ := spot_nat h.spot
    exact ⟨q, h1, h2, h3⟩
  | k + 1, hk => step_nat (h.step k (by omega))
theorem Trn.hv0 {v : Nv} {fp fa fw lg : Int} {nb : Nat} {B : Nat → Nat → Int} (ok : v.Ok) (h : Trn v fp fa fw lg nb B) : 0 ≤ hvF v fp fa fw B 0 ∧ hvF v fp fa fw B 0 ≤ 10000000 := by
  have := hv_bnd ok (B := B) h.spot 0 (fun i hi => absurd hi (Nat.not_lt_zero _))
  omega
theorem Trn.he {v : Nv} {fp fa fw lg : Int} {nb : Nat} {B : Nat → Nat → Int} (ok : v.Ok) (h : Trn v fp fa fw lg nb B) {k : Nat} (hk : k ≤ nb) : 0 ≤ heF v fp fa fw B k ∧ heF v fp fa fw B k ≤ 10000000 ∧ (1 ≤ k → 1 ≤ heF v fp fa fw B k) ∧ (1 ≤ k → hvF v fp fa fw B k = hvF v fp fa fw B (k - 1) + heF v fp fa fw B k) := by
  cases k with
  | zero =>
    have := h.hv0 ok
    exact ⟨this.1, this.2, fun h => absurd h (by omega), fun h => absurd h (by omega)⟩
  | succ j =>
    obtain ⟨q, h1, h2, _⟩ := step_nat (h.step j (by omega))
    have := ok.ln q h2
    have e : heF v fp fa fw B (j + 1) = (v.P q).ln := by rw [heF, h1, Int.toNat_natCast]
    rw [e]
    refine ⟨by omega, this.2, fun _ => this.1, fun _ => ?_⟩
    rw [hvF, h1, Int.toNat_natCast]
    rfl
/-- one step of the stretches -/
theorem Trn.far {v : Nv} {fp fa fw lg : Int} {nb : Nat} {B : Nat → Nat → Int} (ok : v.Ok) (h : Trn v fp fa fw lg nb B) {k : Nat} (hk : k ≤ nb) {x y : Int} (hx : x = lfF v fp fa fw lg nb B k) (hy : y = heF v fp fa fw B k) :
    0 < x ∧ x ≤ 100000 ∧ 0 ≤ y ∧ y ≤ 10000000 ∧ (x < y → frF v fp fa fw lg nb B k = y - x ∧ lfF v fp fa fw lg nb B (k + 1) = x - x ∧ (k = 0 → noF v fp fa fw B = 0)) ∧
    (¬ x < y → frF v fp fa fw lg nb B k = y - y ∧ lfF v fp fa fw lg nb B (k + 1) = x - y ∧ (0 < y → k = 0 → noF v fp fa fw B = 0) ∧ (¬ 0 < y → k = 0 ∧ noF v fp fa fw B = 1)) := by
  obtain ⟨e0, e1, e2, e3⟩ := h.he ok hk
  have h0 := h.lg0
  have h1 := h.lg1
  have hle := h.le
  have hv0 := h.hv0 ok
  rw [← hy] at e0 e1 e2 e3
  have hy0 : k = 0 → y = hvF v fp fa fw B 0 := fun c => by subst c; exact hy
  have hxp : 0 < x ∧ x ≤ 100000 ∧ (k = 0 → x = lg) ∧ (1 ≤ k → x = lg - hvF v fp fa fw B (k - 1)) := by
    unfold lfF at hx
    by_cases c : k = 0
    · rw [if_pos c] at hx
      exact ⟨by omega, by omega, fun _ => hx, fun d => absurd d (by omega)⟩
    · rw [if_neg c, if_pos hk] at hx
      have := h.lt (k - 1) (by omega)
      have h9 := (hv_bnd ok (B := B) h.spot (k - 1) (fun i hi => h.step i (by omega))).1
      exact ⟨by omega, by omega, fun d => absurd d c, fun _ => hx⟩
  obtain ⟨x0, x1, x2, x3⟩ := hxp
  have hn : lfF v fp fa fw lg nb B (k + 1) = if k < nb then lg - hvF v fp fa fw B k else 0 := by
    unfold lfF
    rw [if_neg (by omega), Nat.add_sub_cancel]
    by_cases c : k < nb
    · rw [if_pos (by omega), if_pos c]
    · rw [if_neg (by omega), if_neg c]
  have hno : noF v fp fa fw B = if hvF v fp fa fw B 0 = 0 then 1 else 0 := rfl
  by_cases c : k < nb
  · have hlt := h.lt k c
    rw [if_pos c] at hn
    have hyx : y < x := by
      by_cases d : k = 0
      · have := hy0 d
        have := x2 d
        subst d
        omega
      · have := e3 (by omega)
        have := x3 (by omega)
        omega
    refine ⟨x0, x1, e0, e1, fun g => absurd g (by omega), fun _ => ⟨?_, ?_, ?_, ?_⟩⟩
    · unfold frF
      rw [if_neg (by omega)]
      omega
    · rw [hn]
      by_cases d : k = 0
      · have := hy0 d
        have := x2 d
        subst d
        omega
      · have := e3 (by omega)
        have := x3 (by omega)
        omega
    · intro g d
      rw [hno, if_neg (by have := hy0 d; omega)]
    · intro g
      have d : k = 0 := by
        by_cases d : k = 0
        · exact d
        · have := e2 (by omega)
          omega
      exact ⟨d, by rw [hno, if_pos (by have := hy0 d; omega)]⟩
  · obtain rfl : k = nb := by omega
    rw [if_neg c] at hn
    have hxy : hvF v fp fa fw B k - lg = y - x := by
      by_cases d : k = 0
      · have := hy0 d
        have := x2 d
        subst d
        omega
      · have := e3 (by omega)
        have := x3 (by omega)
        omega
    have hfr : frF v fp fa fw lg k B k = y - x := by
      unfold frF
      rw [if_pos rfl]
      exact hxy
    refine ⟨x0, x1, e0, e1, fun g => ⟨hfr, by omega, fun d => by rw [hno, if_neg (by have := hy0 d; omega)]⟩, fun g => ⟨by omega, by omega, fun _ d => by rw [hno, if_neg (by have := hy0 d; omega)], fun g2 => absurd g2 (by omega)⟩⟩
theorem infoStretch : (Tryz.prog.info? 197).map (fun i => (i.zero, i.size, i.bytes)) = some (some (.agg #[.int .i64 0, .int .i64 0, .int .i64 0, .int .i64 0]), 4, 32) := by kernel_rfl
/-- one stretch more -/
theorem app4 {w W w6 : World} {b T : Nat} {xs : Array Value} {vq vo v2 : Value} {nq n : Nat} {F G : Nat → Nat → Value} {o : Obj} (hT : T ≠ 197) (hb : Below w.heap.size w W) (hx : Box W b T xs) (hq : VOwn w.heap.size 74 2 W vq nq F) (ho : VOwn w.heap.size 197 4 W vo n G) (h2 : VOwn w.heap.size 197 4 w6 v2 (n + 1) G) (hg : (W.alloc o).grownBy w6 vo.ownBlock) :
    (Below w.heap.size w w6 ∧ Box w6 b T xs) ∧ VOwn w.heap.size 74 2 w6 vq nq F ∧ VOwn w.heap.size 197 4 w6 v2 (n + 1) G :=
  ⟨⟨(hb.alloc hb.size o).grown hg (hb.alloc hb.size o).size (fun j hj => (ho.lt hj).1), (hx.alloc o).grown hg (fun e => (ho.alloc o).off (hx.alloc o) hT e rfl)⟩, (hq.alloc o).grown' hg (fun _ hh => (hq.alloc o).apart (ho.alloc o) (by decide) hh), h2⟩
set_option maxRecDepth 100000 in
set_option maxHeartbeats 16000000 in
theorem stretches73 {v : Nv} (ok : v.Ok) {bt sb : Nat} {pa : Option Addr} {pc : Nat} {ja : Option Addr} {jc : Nat} (fp fa fw lg : Int) (nb : Nat) (B : Nat → Nat → Int) (bb bo bk : Nat) (w : World) (h : TkAt w bt sb v pa pc ja jc) (ht : Trn v fp fa fw lg nb B) (hB : NsAt 2 0 w (some ⟨bb, bo, none⟩) nb B) :
    Calls Tryz.prog 132 #[.pointer (some ⟨bt, 0, none⟩), .agg #[.int .i64 fp, .int .i64 fa, .int .i64 fw, .int .i64 lg, .slice (some ⟨bb, bo, none⟩) nb bk]] w fun e w' => ∃ a c, e = .returned (.slice a (nb + 1 - noF v fp fa fw B) c) ∧ VOwn w.heap.size 197 4 w' (.slice a (nb + 1 - noF v fp fa fw B) c) (nb + 1 - noF v fp fa fw B) (intF (stG v fp fa fw lg nb B)) ∧ Below w.heap.size w w' := by
  have H : Hid (v.Ok ∧ Trn v fp fa fw lg nb B ∧ TkAt w bt sb v pa pc ja jc ∧ NsAt 2 0 w (some ⟨bb, bo, none⟩) nb B) := ⟨ok, ht, h, hB⟩
  have hnb := ht.nb1
  obtain ⟨i0, hi0, hz0, hs0, hb0⟩ := info_parts infoStretch
  have S0 : Hid (Below w.heap.size w (w.alloc (.cells #[.int .i64 fp, .int .i64 fa, .int .i64 fw, .int .i64 lg, .slice (some ⟨bb, bo, none⟩) nb bk] 90)) ∧ Box (w.alloc (.cells #[.int .i64 fp, .int .i64 fa, .int .i64 fw, .int .i64 lg, .slice (some ⟨bb, bo, none⟩) nb bk] 90)) (w.heap.size) 90 #[.int .i64 fp, .int .i64 fa, .int .i64 fw, .int .i64 lg, .slice (some ⟨bb, bo, none⟩) nb bk]) := ⟨bel1 _ _, Box.new _ _ _⟩
  clear ok ht h hB
  go_enter Tryz.func132, Tryz.ntmps132
  go_upto_region 1 with fail
  generalize w.alloc (.cells #[.int .i64 fp, .int .i64 fa, .int .i64 fw, .int .i64 lg, .slice (some ⟨bb, bo, none⟩) nb bk] 90) = V0 at S0 ⊢
  have a0 : V0.cell? ⟨w.heap.size, 0, none⟩ = some (.int .i64 fp) := S0.out.2.cell 0
  have a1 : V0.cell? ⟨w.heap.size, 1, none⟩ = some (.int .i64 fa) := S0.out.2.cell 1
  have a2 : V0.cell? ⟨w.heap.size, 2, none⟩ = some (.int .i64 fw) := S0.out.2.cell 2
  have a3 : V0.cell? ⟨w.heap.size, 3, none⟩ = some (.int .i64 lg) := S0.out.2.cell 3
  have a4 : V0.cell? ⟨w.heap.size, 4, none⟩ = some (.slice (some ⟨bb, bo, none⟩) nb bk) := S0.out.2.cell 4
  go_wp2_with fail
  clear a0 a1 a2 a3 a4
  refine (steps100 fp fa fw lg nb B bb bo bk V0 (by omega) (H.out.2.2.2.mono (Nat.le_refl _) S0.out.1 (Nat.le_refl _))).mono ?_
  rintro e w1 ⟨vq, rfl, hq1, hb1⟩
  obtain ⟨ga, gc, rfl⟩ := hq1.val
  obtain ⟨g, rfl, _, _⟩ := hq1.addr (by omega)
  have T0 : Hid ((Below w.heap.size w w1 ∧ Box w1 (w.heap.size) 90 #[.int .i64 fp, .int .i64 fa, .int .i64 fw, .int .i64 lg, .slice (some ⟨bb, bo, none⟩) nb bk]) ∧ VOwn w.heap.size 74 2 w1 (.slice (some ⟨g, 0, none⟩) (nb + 1) gc) (nb + 1) (intF (stF fp fw B)) ∧ VOwn w.heap.size 197 4 w1 (.slice none 0 0) 0 (intF (stG v fp fa fw lg nb B))) := ⟨⟨S0.out.1.trans (hb1.mono S0.out.1.size), S0.out.2.mono hb1 (Nat.le_refl _)⟩, hq1.keep S0.out.1.size fun _ _ => rfl, VOwn.nil _ _ _ _ _⟩
  clear hq1 hb1 S0
  go_wp2_with fail
  go_loopw [5, 6, 16] (fun u l c wr => ∃ (k n : Nat) (x : Int) (oa : Option Addr) (oc : Nat), k ≤ nb + 1 ∧ c = .int .i64 k ∧ l = .int .i64 x ∧ u = .slice oa n oc ∧ Hid (x = lfF v fp fa fw lg nb B k ∧ n = k - noF v fp fa fw B) ∧ Hid ((Below w.heap.size w wr ∧ Box wr (w.heap.size) 90 #[.int .i64 fp, .int .i64 fa, .int .i64 fw, .int .i64 lg, .slice (some ⟨bb, bo, none⟩) nb bk]) ∧ VOwn w.heap.size 74 2 wr (.slice (some ⟨g, 0, none⟩) (nb + 1) gc) (nb + 1) (intF (stF fp fw B)) ∧ VOwn w.heap.size 197 4 wr (.slice oa n oc) n (intF (stG v fp fa fw lg nb B)))) (fun _ _ c _ => nb + 1 - (intOf c).toNat)
  case atStart => exact ⟨0, 0, lg, none, 0, Nat.zero_le _, rfl, rfl, rfl, ⟨rfl, (Nat.zero_sub _).symm⟩, T0⟩
  case round =>
    clear T0
    obtain ⟨k, n, x, oa, oc, hk, rfl, rfl, rfl, HN, D⟩ := hrel
    by_cases hlt : k < nb + 1
    · obtain ⟨sp, HSP, hspn, _⟩ : ∃ q : Nat, Hid (ahP fp B k = (q : Int)) ∧ q < v.n ∧ (ahW fw B k = 1 ∨ ahW fw B k = -1) := H.out.2.1.sp k (by omega)
      obtain ⟨wy, HWY⟩ : ∃ q, Hid (ahW fw B k = q) := ⟨_, rfl⟩
      have hk0 : (0 : Int) ≤ (k : Int) := by omega
      have hkn : (k : Int) < ((nb + 1 : Nat) : Int) := by omega
      have d0 : wr.cell? ⟨g, k * 2, none⟩ = some (.int .i64 (sp : Int)) := by
        have h9 := D.out.2.1.cell (i := k) (j := 0) (by omega) (by omega)
        rw [← HSP.out]
        exact h9
      have d1 : wr.cell? ⟨g, k * 2 + 1, none⟩ = some (.int .i64 wy) := by
        have h9 := D.out.2.1.cell (i := k) (j := 1) (by omega) (by omega)
        rw [← HWY.out]
        exact h9
      have D1 : Hid ((Below w.heap.size w (wr.alloc (.cells #[.int .i64 (sp : Int), .int .i64 wy] 74)) ∧ Box (wr.alloc (.cells #[.int .i64 (sp : Int), .int .i64 wy] 74)) (w.heap.size) 90 #[.int .i64 fp, .int .i64 fa, .int .i64 fw, .int .i64 lg, .slice (some ⟨bb, bo, none⟩) nb bk] ∧ Box (wr.alloc (.cells #[.int .i64 (sp : Int), .int .i64 wy] 74)) wr.heap.size 74 #[.int .i64 (sp : Int), .int .i64 wy]) ∧ VOwn w.heap.size 74 2 (wr.alloc (.cells #[.int .i64 (sp : Int), .int .i64 wy] 74)) (.slice (some ⟨g, 0, none⟩) (nb + 1) gc) (nb + 1) (intF (stF fp fw B)) ∧ VOwn w.heap.size 197 4 (wr.alloc (.cells #[.int .i64 (sp : Int), .int .i64 wy] 74)) (.slice oa n oc) n (intF (stG v fp fa fw lg nb B))) := ⟨⟨D.out.1.1.alloc D.out.1.1.size _, D.out.1.2.alloc _, Box.new _ _ _⟩, D.out.2.1.alloc _, D.out.2.2.alloc _⟩
      clear D
      go_upto_region 6 with fail
      clear d0 d1
      generalize wr.alloc (.cells #[.int .i64 (sp : Int), .int .i64 wy] 74) = V5 at D1 ⊢
      generalize wr.heap.size = sq at D1 ⊢
      have s0 : V5.cell? ⟨sq, 0, none⟩ = some (.int .i64 (sp : Int)) := D1.out.1.2.2.cell 0
      have s1 : V5.cell? ⟨sq, 1, none⟩ = some (.int .i64 wy) := D1.out.1.2.2.cell 1
      go_wp2_with fail
      clear s0 s1
      refine (long99 H.out.1 sp wy V5 (H.out.2.2.1.mono D1.out.1.1 (Nat.le_refl _)) hspn).mono ?_
      rintro e w5 ⟨rfl, hb5⟩
      have D2 : Hid ((Below w.heap.size w w5 ∧ Box w5 (w.heap.size) 90 #[.int .i64 fp, .int .i64 fa, .int .i64 fw, .int .i64 lg, .slice (some ⟨bb, bo, none⟩) nb bk] ∧ Box w5 (sq) 74 #[.int .i64 (sp : Int), .int .i64 wy]) ∧ VOwn w.heap.size 74 2 w5 (.slice (some ⟨g, 0, none⟩) (nb + 1) gc) (nb + 1) (intF (stF fp fw B)) ∧ VOwn w.heap.size 197 4 w5 (.slice oa n oc) n (intF (stG v fp fa fw lg nb B))) := ⟨⟨D1.out.1.1.trans (hb5.mono D1.out.1.1.size), D1.out.1.2.1.mono hb5 (Nat.le_refl _), D1.out.1.2.2.mono hb5 (Nat.le_refl _)⟩, D1.out.2.1.mono (Nat.le_refl _) hb5 (Nat.le_refl _), D1.out.2.2.mono (Nat.le_refl _) hb5 (Nat.le_refl _)⟩
      clear hb5 D1
      by_cases hkz : k = 0
      · subst hkz
        obtain ⟨fq, hfq, hfn, hfw, hfa0, hfa1⟩ := spot_nat H.out.2.1.spot
        have hll := H.out.1.ln fq hfn
        have hfa : 0 ≤ fa ∧ fa ≤ 10000000 := by omega
        have HFW : Hid (fp = (sp : Int) ∧ fw = wy) := by
          have h1 := HSP.out
          have h2 := HWY.out
          exact ⟨h1, h2⟩
        clear hfq hfn hfw hfa0 hfa1 hll
        have s0 : w5.cell? ⟨sq, 0, none⟩ = some (.int .i64 (sp : Int)) := D2.out.1.2.2.cell 0
        have s1 : w5.cell? ⟨sq, 1, none⟩ = some (.int .i64 wy) := D2.out.1.2.2.cell 1
        have a1 : w5.cell? ⟨w.heap.size, 1, none⟩ = some (.int .i64 fa) := D2.out.1.2.1.cell 1
        go_wp2_with fail
        clear s0 s1 a1
        refine (along98 H.out.1 sp wy fa w5 (H.out.2.2.1.mono D2.out.1.1 (Nat.le_refl _)) hspn hfa).mono ?_
        rintro e w7 ⟨he, hb7⟩
        obtain ⟨y, HY⟩ : ∃ y, Hid (y = heF v fp fa fw B 0) := ⟨_, rfl⟩
        have HYE : Hid (farI (v.P sp).ln fa wy = y) := by
          show _ = _
          rw [HY.out, heF, hvF, HFW.out.1, HFW.out.2, Int.toNat_natCast]
        rw [HYE.out] at he
        subst he
        have D3 : Hid ((Below w.heap.size w w7 ∧ Box w7 (w.heap.size) 90 #[.int .i64 fp, .int .i64 fa, .int .i64 fw, .int .i64 lg, .slice (some ⟨bb, bo, none⟩) nb bk] ∧ Box w7 (sq) 74 #[.int .i64 (sp : Int), .int .i64 wy]) ∧ VOwn w.heap.size 74 2 w7 (.slice (some ⟨g, 0, none⟩) (nb + 1) gc) (nb + 1) (intF (stF fp fw B)) ∧ VOwn w.heap.size 197 4 w7 (.slice oa n oc) n (intF (stG v fp fa fw lg nb B))) := ⟨⟨D2.out.1.1.trans (hb7.mono D2.out.1.1.size), D2.out.1.2.1.mono hb7 (Nat.le_refl _), D2.out.1.2.2.mono hb7 (Nat.le_refl _)⟩, D2.out.2.1.mono (Nat.le_refl _) hb7 (Nat.le_refl _), D2.out.2.2.mono (Nat.le_refl _) hb7 (Nat.le_refl _)⟩
        clear hb7 D2
        obtain ⟨x0, x1, y0, y1, HF1, HF2⟩ : 0 < x ∧ x ≤ 100000 ∧ 0 ≤ y ∧ y ≤ 10000000 ∧ Hid (x < y → frF v fp fa fw lg nb B 0 = y - x ∧ lfF v fp fa fw lg nb B (0 + 1) = x - x ∧ (0 = 0 → noF v fp fa fw B = 0)) ∧ Hid (¬ x < y → frF v fp fa fw lg nb B 0 = y - y ∧ lfF v fp fa fw lg nb B (0 + 1) = x - y ∧ (0 < y → 0 = 0 → noF v fp fa fw B = 0) ∧ (¬ 0 < y → 0 = 0 ∧ noF v fp fa fw B = 1)) := H.out.2.1.far H.out.1 (by omega) HN.out.1 HY.out
        by_cases hm : x < y
        · have HF : Hid (frF v fp fa fw lg nb B 0 = y - x ∧ lfF v fp fa fw lg nb B (0 + 1) = 0 ∧ (0 = 0 → noF v fp fa fw B = 0)) := (by obtain ⟨h1, h2, h3⟩ := HF1.out hm; exact ⟨h1, by omega, h3⟩)
          have hwy : IntKind.i64.wrap (y - x) = y - x := by rw [IntKind.wrap_i64]; omega
          have hwx : IntKind.i64.wrap (x - x) = x - x := by rw [IntKind.wrap_i64]; omega
          have hpos : decide (0 < x) = true := by simp; omega
          have HNO : Hid (n + noF v fp fa fw B = 0 ∧ n + 1 = 0 + 1 - noF v fp fa fw B) := by
            have h7 := HN.out.2
            have h8 := HF.out.2.2
            have h9 : noF v fp fa fw B = 0 ∨ noF v fp fa fw B = 1 := by unfold noF; split <;> simp
            show _ ∧ _
            by_cases c : 0 = 0
            · have := h8 c
              omega
            · omega
          have HVS : Hid ((#[.int .i64 (sp : Int), .int .i64 wy, .int .i64 (y - x), .int .i64 y] : Array Value).toList = (List.range 4).map (intF (stG v fp fa fw lg nb B) n)) := by
            have e0 : stG v fp fa fw lg nb B n 0 = (sp : Int) := by rw [stG, HNO.out.1]; exact HSP.out
            have e1 : stG v fp fa fw lg nb B n 1 = wy := by rw [stG, HNO.out.1]; exact HWY.out
            have e2 : stG v fp fa fw lg nb B n 2 = y - x := by rw [stG, HNO.out.1]; exact HF.out.1
            have e3 : stG v fp fa fw lg nb B n 3 = y := by rw [stG, HNO.out.1]; exact HY.out.symm
            show _ = _
            simp [List.range_succ, intF, e0, e1, e2, e3]
          have s0 : w7.cell? ⟨sq, 0, none⟩ = some (.int .i64 (sp : Int)) := D3.out.1.2.2.cell 0
          have s1 : w7.cell? ⟨sq, 1, none⟩ = some (.int .i64 wy) := D3.out.1.2.2.cell 1
          have hn2 : n + 1 ≤ 300 := by have := HNO.out.2; omega
          have hsz : w.heap.size ≤ (w7.alloc (.cells #[.int .i64 (sp : Int), .int .i64 wy, .int .i64 (y - x), .int .i64 y] 197)).heap.size := (D3.out.1.1.alloc D3.out.1.1.size _).size
          go_wp2_with (at_builtin; go_must (refine wpList_vapp _ rfl _ _ 198 rfl w.heap.size 197 i0 _ 4 32 Tryz.underlying198 hi0 hz0 hs0 hb0 rfl (by decide) (.slice oa n oc) n (intF (stG v fp fa fw lg nb B)) rfl (D3.out.2.2.alloc _) (fun _ _ => rfl) w7.heap.size 1 #[.int .i64 (sp : Int), .int .i64 wy, .int .i64 (y - x), .int .i64 y] rfl (Box.new _ _ _) HVS.out (by simp only [maxLen]; omega) (by omega) hsz (Halt.mk ?_)))
          intro v2 w6 ho2 hg2
          have HA := app4 (by decide) D3.out.1.1 D3.out.1.2.1 D3.out.2.1 D3.out.2.2 ho2 hg2
          obtain ⟨a2, c2, rfl⟩ := ho2.val
          have HD : Hid ((Below w.heap.size w w6 ∧ Box w6 (w.heap.size) 90 #[.int .i64 fp, .int .i64 fa, .int .i64 fw, .int .i64 lg, .slice (some ⟨bb, bo, none⟩) nb bk]) ∧ VOwn w.heap.size 74 2 w6 (.slice (some ⟨g, 0, none⟩) (nb + 1) gc) (nb + 1) (intF (stF fp fw B)) ∧ VOwn w.heap.size 197 4 w6 (.slice a2 (n + 1) c2) (n + 1) (intF (stG v fp fa fw lg nb B))) := HA
          clear HA ho2 hg2 s0 s1 hsz D3
          go_wp2_with fail
          go_roundw
          case rel => exact ⟨0 + 1, n + 1, 0, a2, c2, by omega, by go_num, rfl, rfl, ⟨HF.out.2.1.symm, HNO.out.2⟩, HD⟩
          case measure => simp [intOf]
        · by_cases hy0 : 0 < y
          · have HF : Hid (frF v fp fa fw lg nb B 0 = 0 ∧ lfF v fp fa fw lg nb B (0 + 1) = x - y ∧ (0 = 0 → noF v fp fa fw B = 0)) := (by obtain ⟨h1, h2, h3, _⟩ := HF2.out hm; exact ⟨by omega, h2, h3 hy0⟩)
            have hwy : IntKind.i64.wrap (y - y) = y - y := by rw [IntKind.wrap_i64]; omega
            have hwx : IntKind.i64.wrap (x - y) = x - y := by rw [IntKind.wrap_i64]; omega
            have hpos : decide (0 < y) = true := by simp; omega
            have HNO : Hid (n + noF v fp fa fw B = 0 ∧ n + 1 = 0 + 1 - noF v fp fa fw B) := by
              have h7 := HN.out.2
              have h8 := HF.out.2.2
              have h9 : noF v fp fa fw B = 0 ∨ noF v fp fa fw B = 1 := by unfold noF; split <;> simp
              show _ ∧ _
              by_cases c : 0 = 0
              · have := h8 c
                omega
              · omega
            have HVS : Hid ((#[.int .i64 (sp : Int), .int .i64 wy, .int .i64 (0), .int .i64 y] : Array Value).toList = (List.range 4).map (intF (stG v fp fa fw lg nb B) n)) := by
              have e0 : stG v fp fa fw lg nb B n 0 = (sp : Int) := by rw [stG, HNO.out.1]; exact HSP.out
              have e1 : stG v fp fa fw lg nb B n 1 = wy := by rw [stG, HNO.out.1]; exact HWY.out
              have e2 : stG v fp fa fw lg nb B n 2 = 0 := by rw [stG, HNO.out.1]; exact HF.out.1
              have e3 : stG v fp fa fw lg nb B n 3 = y := by rw [stG, HNO.out.1]; exact HY.out.symm
              show _ = _
              simp [List.range_succ, intF, e0, e1, e2, e3]
            have s0 : w7.cell? ⟨sq, 0, none⟩ = some (.int .i64 (sp : Int)) := D3.out.1.2.2.cell 0
            have s1 : w7.cell? ⟨sq, 1, none⟩ = some (.int .i64 wy) := D3.out.1.2.2.cell 1
            have hn2 : n + 1 ≤ 300 := by have := HNO.out.2; omega
            have hsz : w.heap.size ≤ (w7.alloc (.cells #[.int .i64 (sp : Int), .int .i64 wy, .int .i64 (0), .int .i64 y] 197)).heap.size := (D3.out.1.1.alloc D3.out.1.1.size _).size
            go_wp2_with (at_builtin; go_must (refine wpList_vapp _ rfl _ _ 198 rfl w.heap.size 197 i0 _ 4 32 Tryz.underlying198 hi0 hz0 hs0 hb0 rfl (by decide) (.slice oa n oc) n (intF (stG v fp fa fw lg nb B)) rfl (D3.out.2.2.alloc _) (fun _ _ => rfl) w7.heap.size 1 #[.int .i64 (sp : Int), .int .i64 wy, .int .i64 (0), .int .i64 y] rfl (Box.new _ _ _) HVS.out (by simp only [maxLen]; omega) (by omega) hsz (Halt.mk ?_)))
            intro v2 w6 ho2 hg2
            have HA := app4 (by decide) D3.out.1.1 D3.out.1.2.1 D3.out.2.1 D3.out.2.2 ho2 hg2
            obtain ⟨a2, c2, rfl⟩ := ho2.val
            have HD : Hid ((Below w.heap.size w w6 ∧ Box w6 (w.heap.size) 90 #[.int .i64 fp, .int .i64 fa, .int .i64 fw, .int .i64 lg, .slice (some ⟨bb, bo, none⟩) nb bk]) ∧ VOwn w.heap.size 74 2 w6 (.slice (some ⟨g, 0, none⟩) (nb + 1) gc) (nb + 1) (intF (stF fp fw B)) ∧ VOwn w.heap.size 197 4 w6 (.slice a2 (n + 1) c2) (n + 1) (intF (stG v fp fa fw lg nb B))) := HA
            clear HA ho2 hg2 s0 s1 hsz D3
            go_wp2_with fail
            go_roundw
            case rel => exact ⟨0 + 1, n + 1, x - y, a2, c2, by omega, by go_num, rfl, rfl, ⟨HF.out.2.1.symm, HNO.out.2⟩, HD⟩
            case measure => simp [intOf]
          · have hz0 : decide (0 < y) = false := by simp; omega
            have HF : Hid (lfF v fp fa fw lg nb B (0 + 1) = x ∧ n = 0 + 1 - noF v fp fa fw B) := by
              obtain ⟨_, h2, _, h4⟩ := HF2.out hm
              obtain ⟨h5, h6⟩ := h4 hy0
              have := HN.out.2
              show _ ∧ _
              omega
            have HD : Hid ((Below w.heap.size w w7 ∧ Box w7 (w.heap.size) 90 #[.int .i64 fp, .int .i64 fa, .int .i64 fw, .int .i64 lg, .slice (some ⟨bb, bo, none⟩) nb bk]) ∧ VOwn w.heap.size 74 2 w7 (.slice (some ⟨g, 0, none⟩) (nb + 1) gc) (nb + 1) (intF (stF fp fw B)) ∧ VOwn w.heap.size 197 4 w7 (.slice oa n oc) n (intF (stG v fp fa fw lg nb B))) := ⟨⟨D3.out.1.1, D3.out.1.2.1⟩, D3.out.2⟩
            clear D3 HF1 HF2
            go_wp2_with fail
            go_roundw
            case rel => exact ⟨0 + 1, n, x, oa, oc, by omega, by go_num, rfl, rfl, ⟨HF.out.1.symm, HF.out.2⟩, HD⟩
            case measure => simp [intOf]
      · have hkz' : ((k : Int) == 0) = false := by simpa using hkz
        obtain ⟨y, HY⟩ : ∃ y, Hid (y = heF v fp fa fw B k) := ⟨_, rfl⟩
        have HYE : Hid ((v.P sp).ln = y) := by
          show _ = _
          rw [HY.out]
          cases k with
          | zero => exact absurd rfl hkz
          | succ j => rw [heF, show (B j 0) = (sp : Int) from HSP.out, Int.toNat_natCast]
        rw [HYE.out]
        obtain ⟨x0, x1, y0, y1, HF1, HF2⟩ : 0 < x ∧ x ≤ 100000 ∧ 0 ≤ y ∧ y ≤ 10000000 ∧ Hid (x < y → frF v fp fa fw lg nb B k = y - x ∧ lfF v fp fa fw lg nb B (k + 1) = x - x ∧ (k = 0 → noF v fp fa fw B = 0)) ∧ Hid (¬ x < y → frF v fp fa fw lg nb B k = y - y ∧ lfF v fp fa fw lg nb B (k + 1) = x - y ∧ (0 < y → k = 0 → noF v fp fa fw B = 0) ∧ (¬ 0 < y → k = 0 ∧ noF v fp fa fw B = 1)) := H.out.2.1.far H.out.1 (by omega) HN.out.1 HY.out
        by_cases hm : x < y
        · have HF : Hid (frF v fp fa fw lg nb B k = y - x ∧ lfF v fp fa fw lg nb B (k + 1) = 0 ∧ (k = 0 → noF v fp fa fw B = 0)) := (by obtain ⟨h1, h2, h3⟩ := HF1.out hm; exact ⟨h1, by omega, h3⟩)
          have hwy : IntKind.i64.wrap (y - x) = y - x := by rw [IntKind.wrap_i64]; omega
          have hwx : IntKind.i64.wrap (x - x) = x - x := by rw [IntKind.wrap_i64]; omega
          have hpos : decide (0 < x) = true := by simp; omega
          have HNO : Hid (n + noF v fp fa fw B = k ∧ n + 1 = k + 1 - noF v fp fa fw B) := by
            have h7 := HN.out.2
            have h8 := HF.out.2.2
            have h9 : noF v fp fa fw B = 0 ∨ noF v fp fa fw B = 1 := by unfold noF; split <;> simp
            show _ ∧ _
            by_cases c : k = 0
            · have := h8 c
              omega
            · omega
          have HVS : Hid ((#[.int .i64 (sp : Int), .int .i64 wy, .int .i64 (y - x), .int .i64 y] : Array Value).toList = (List.range 4).map (intF (stG v fp fa fw lg nb B) n)) := by
            have e0 : stG v fp fa fw lg nb B n 0 = (sp : Int) := by rw [stG, HNO.out.1]; exact HSP.out
            have e1 : stG v fp fa fw lg nb B n 1 = wy := by rw [stG, HNO.out.1]; exact HWY.out
            have e2 : stG v fp fa fw lg nb B n 2 = y - x := by rw [stG, HNO.out.1]; exact HF.out.1
            have e3 : stG v fp fa fw lg nb B n 3 = y := by rw [stG, HNO.out.1]; exact HY.out.symm
            show _ = _
            simp [List.range_succ, intF, e0, e1, e2, e3]
          have s0 : w5.cell? ⟨sq, 0, none⟩ = some (.int .i64 (sp : Int)) := D2.out.1.2.2.cell 0
          have s1 : w5.cell? ⟨sq, 1, none⟩ = some (.int .i64 wy) := D2.out.1.2.2.cell 1
          have hn2 : n + 1 ≤ 300 := by have := HNO.out.2; omega
          have hsz : w.heap.size ≤ (w5.alloc (.cells #[.int .i64 (sp : Int), .int .i64 wy, .int .i64 (y - x), .int .i64 y] 197)).heap.size := (D2.out.1.1.alloc D2.out.1.1.size _).size
          go_wp2_with (at_builtin; go_must (refine wpList_vapp _ rfl _ _ 198 rfl w.heap.size 197 i0 _ 4 32 Tryz.underlying198 hi0 hz0 hs0 hb0 rfl (by decide) (.slice oa n oc) n (intF (stG v fp fa fw lg nb B)) rfl (D2.out.2.2.alloc _) (fun _ _ => rfl) w5.heap.size 1 #[.int .i64 (sp : Int), .int .i64 wy, .int .i64 (y - x), .int .i64 y] rfl (Box.new _ _ _) HVS.out (by simp only [maxLen]; omega) (by omega) hsz (Halt.mk ?_)))
          intro v2 w6 ho2 hg2
          have HA := app4 (by decide) D2.out.1.1 D2.out.1.2.1 D2.out.2.1 D2.out.2.2 ho2 hg2
          obtain ⟨a2, c2, rfl⟩ := ho2.val
          have HD : Hid ((Below w.heap.size w w6 ∧ Box w6 (w.heap.size) 90 #[.int .i64 fp, .int .i64 fa, .int .i64 fw, .int .i64 lg, .slice (some ⟨bb, bo, none⟩) nb bk]) ∧ VOwn w.heap.size 74 2 w6 (.slice (some ⟨g, 0, none⟩) (nb + 1) gc) (nb + 1) (intF (stF fp fw B)) ∧ VOwn w.heap.size 197 4 w6 (.slice a2 (n + 1) c2) (n + 1) (intF (stG v fp fa fw lg nb B))) := HA
          clear HA ho2 hg2 s0 s1 hsz D2
          go_wp2_with fail
          go_roundw
          case rel => exact ⟨k + 1, n + 1, 0, a2, c2, by omega, by go_num, rfl, rfl, ⟨HF.out.2.1.symm, HNO.out.2⟩, HD⟩
          case measure => simp [intOf]; omega
        · by_cases hy0 : 0 < y
          · have HF : Hid (frF v fp fa fw lg nb B k = 0 ∧ lfF v fp fa fw lg nb B (k + 1) = x - y ∧ (k = 0 → noF v fp fa fw B = 0)) := (by obtain ⟨h1, h2, h3, _⟩ := HF2.out hm; exact ⟨by omega, h2, h3 hy0⟩)
            have hwy : IntKind.i64.wrap (y - y) = y - y := by rw [IntKind.wrap_i64]; omega
            have hwx : IntKind.i64.wrap (x - y) = x - y := by rw [IntKind.wrap_i64]; omega
            have hpos : decide (0 < y) = true := by simp; omega
            have HNO : Hid (n + noF v fp fa fw B = k ∧ n + 1 = k + 1 - noF v fp fa fw B) := by
              have h7 := HN.out.2
              have h8 := HF.out.2.2
              have h9 : noF v fp fa fw B = 0 ∨ noF v fp fa fw B = 1 := by unfold noF; split <;> simp
              show _ ∧ _
              by_cases c : k = 0
              · have := h8 c
                omega
              · omega
            have HVS : Hid ((#[.int .i64 (sp : Int), .int .i64 wy, .int .i64 (0), .int .i64 y] : Array Value).toList = (List.range 4).map (intF (stG v fp fa fw lg nb B) n)) := by
              have e0 : stG v fp fa fw lg nb B n 0 = (sp : Int) := by rw [stG, HNO.out.1]; exact HSP.out
              have e1 : stG v fp fa fw lg nb B n 1 = wy := by rw [stG, HNO.out.1]; exact HWY.out
              have e2 : stG v fp fa fw lg nb B n 2 = 0 := by rw [stG, HNO.out.1]; exact HF.out.1
              have e3 : stG v fp fa fw lg nb B n 3 = y := by rw [stG, HNO.out.1]; exact HY.out.symm
              show _ = _
              simp [List.range_succ, intF, e0, e1, e2, e3]
            have s0 : w5.cell? ⟨sq, 0, none⟩ = some (.int .i64 (sp : Int)) := D2.out.1.2.2.cell 0
            have s1 : w5.cell? ⟨sq, 1, none⟩ = some (.int .i64 wy) := D2.out.1.2.2.cell 1
            have hn2 : n + 1 ≤ 300 := by have := HNO.out.2; omega
            have hsz : w.heap.size ≤ (w5.alloc (.cells #[.int .i64 (sp : Int), .int .i64 wy, .int .i64 (0), .int .i64 y] 197)).heap.size := (D2.out.1.1.alloc D2.out.1.1.size _).size
            go_wp2_with (at_builtin; go_must (refine wpList_vapp _ rfl _ _ 198 rfl w.heap.size 197 i0 _ 4 32 Tryz.underlying198 hi0 hz0 hs0 hb0 rfl (by decide) (.slice oa n oc) n (intF (stG v fp fa fw lg nb B)) rfl (D2.out.2.2.alloc _) (fun _ _ => rfl) w5.heap.size 1 #[.int .i64 (sp : Int), .int .i64 wy, .int .i64 (0), .int .i64 y] rfl (Box.new _ _ _) HVS.out (by simp only [maxLen]; omega) (by omega) hsz (Halt.mk ?_)))
            intro v2 w6 ho2 hg2
            have HA := app4 (by decide) D2.out.1.1 D2.out.1.2.1 D2.out.2.1 D2.out.2.2 ho2 hg2
            obtain ⟨a2, c2, rfl⟩ := ho2.val
            have HD : Hid ((Below w.heap.size w w6 ∧ Box w6 (w.heap.size) 90 #[.int .i64 fp, .int .i64 fa, .int .i64 fw, .int .i64 lg, .slice (some ⟨bb, bo, none⟩) nb bk]) ∧ VOwn w.heap.size 74 2 w6 (.slice (some ⟨g, 0, none⟩) (nb + 1) gc) (nb + 1) (intF (stF fp fw B)) ∧ VOwn w.heap.size 197 4 w6 (.slice a2 (n + 1) c2) (n + 1) (intF (stG v fp fa fw lg nb B))) := HA
            clear HA ho2 hg2 s0 s1 hsz D2
            go_wp2_with fail
            go_roundw
            case rel => exact ⟨k + 1, n + 1, x - y, a2, c2, by omega, by go_num, rfl, rfl, ⟨HF.out.2.1.symm, HNO.out.2⟩, HD⟩
            case measure => simp [intOf]; omega
          · have hz0 : decide (0 < y) = false := by simp; omega
            have HF : Hid (lfF v fp fa fw lg nb B (k + 1) = x ∧ n = k + 1 - noF v fp fa fw B) := by
              obtain ⟨_, h2, _, h4⟩ := HF2.out hm
              obtain ⟨h5, h6⟩ := h4 hy0
              have := HN.out.2
              show _ ∧ _
              omega
            have HD : Hid ((Below w.heap.size w w5 ∧ Box w5 (w.heap.size) 90 #[.int .i64 fp, .int .i64 fa, .int .i64 fw, .int .i64 lg, .slice (some ⟨bb, bo, none⟩) nb bk]) ∧ VOwn w.heap.size 74 2 w5 (.slice (some ⟨g, 0, none⟩) (nb + 1) gc) (nb + 1) (intF (stF fp fw B)) ∧ VOwn w.heap.size 197 4 w5 (.slice oa n oc) n (intF (stG v fp fa fw lg nb B))) := ⟨⟨D2.out.1.1, D2.out.1.2.1⟩, D2.out.2⟩
            clear D2 HF1 HF2
            go_wp2_with fail
            go_roundw
            case rel => exact ⟨k + 1, n, x, oa, oc, by omega, by go_num, rfl, rfl, ⟨HF.out.1.symm, HF.out.2⟩, HD⟩
            case measure => simp [intOf]; omega
    · obtain rfl : k = nb + 1 := by omega
      have hge : ¬ (((nb + 1 : Nat) : Int) < ((nb + 1 : Nat) : Int)) := by omega
      have HE : Hid (Below w.heap.size w wr) := D.out.1.1
      have HNN : Hid (n = nb + 1 - noF v fp fa fw B) := HN.out.2
      go_wp2_with fail
      go_ret
      exact ⟨oa, oc, by rw [← HNN.out]; rfl, by rw [← HNN.out]; exact D.out.2.2, HE.out⟩

end Go.Proofs.YtjhmaofjmalglaaGreat
