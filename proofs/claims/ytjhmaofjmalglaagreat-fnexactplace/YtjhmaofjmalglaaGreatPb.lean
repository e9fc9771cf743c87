import Derived.Test.YtjhmaofjmalglaaGreatVh
import Derived.Test.YtjhmaofjmalglaaGreatXa
namespace Go.Proofs.YtjhmaofjmalglaaGreat
open Go.RowKit Go.Lib

/-- how many steps a body needs behind its front -/
def NdR (w : World) (h : Nat → Int) (lg : Int) (nb : Nat) (e : Ending) (w' : World) : Prop := ∃ z : Nat, e = .returned (.int .i64 (z : Int)) ∧ z ≤ nb + 1 ∧ (∀ q, q < z → q ≤ nb → h q < lg) ∧ (z ≤ nb → lg ≤ h z) ∧ Below w.heap.size w w'
set_option maxRecDepth 100000 in
set_option maxHeartbeats 16000000 in
theorem needs45 {v : Nv} (ok : v.Ok) {bt sb : Nat} {pa : Option Addr} {pc : Nat} {ja : Option Addr} {jc : Nat} (fp fa fw lg : Int) (nb : Nat) (B : Nat → Nat → Int) (ba : Option Addr) (bk : Nat) (w : World) (h : TkAt w bt sb v pa pc ja jc) (hsp : spotB v fp fa fw = true) (hlg : 1 ≤ lg ∧ lg ≤ 100000) (hnb : nb ≤ 200) (hB : NsAt 2 0 w ba nb B) (hst : ∀ i, i < nb → stepB v (B i 0) (B i 1) = true) :
    Calls Tryz.prog 45 #[.pointer (some ⟨bt, 0, none⟩), .agg #[.int .i64 fp, .int .i64 fa, .int .i64 fw, .int .i64 lg, .slice ba nb bk]] w fun e w' => NdR w (hvF v fp fa fw B) lg nb e w' := by
  have H : Hid (v.Ok ∧ TkAt w bt sb v pa pc ja jc ∧ NsAt 2 0 w ba nb B ∧ (∀ i, i < nb → stepB v (B i 0) (B i 1) = true) ∧ spotB v fp fa fw = true) := ⟨ok, h, hB, hst, hsp⟩
  have hn := ok.n1
  obtain ⟨fq, rfl, hfq, hfw, hfa⟩ : ∃ q : Nat, fp = (q : Int) ∧ q < v.n ∧ (fw = 1 ∨ fw = -1) ∧ (0 ≤ fa ∧ fa ≤ (v.P q).ln) := spot_nat hsp
  have hl0 := ok.ln fq hfq
  have hfa : 0 ≤ fa ∧ fa ≤ 10000000 := by omega
  have S0 : Hid (Below w.heap.size w (w.alloc (.cells #[.int .i64 (fq : Int), .int .i64 fa, .int .i64 fw, .int .i64 lg, .slice ba nb bk] 90)) ∧ Box (w.alloc (.cells #[.int .i64 (fq : Int), .int .i64 fa, .int .i64 fw, .int .i64 lg, .slice ba nb bk] 90)) w.heap.size 90 #[.int .i64 (fq : Int), .int .i64 fa, .int .i64 fw, .int .i64 lg, .slice ba nb bk]) := ⟨bel1 _ _, Box.new _ _ _⟩
  have HF0 : Hid (farI (v.P fq).ln fa fw = hvF v (fq : Int) fa fw B 0) := by show _ = _; rw [hvF, Int.toNat_natCast]
  have hf0 : 0 ≤ farI (v.P fq).ln fa fw ∧ farI (v.P fq).ln fa fw ≤ 10000000 := by have := hv_bnd (B := B) ok hsp 0 (fun i hi => absurd hi (Nat.not_lt_zero _)); rw [← HF0.out] at this; omega
  have hw0 : IntKind.i64.wrap (lg - farI (v.P fq).ln fa fw) = lg - farI (v.P fq).ln fa fw := by rw [IntKind.wrap_i64]; omega
  clear ok h hB hst hsp
  go_enter Tryz.func45, Tryz.ntmps45
  go_upto_region 1 with fail
  generalize (w.alloc (.cells #[.int .i64 (fq : Int), .int .i64 fa, .int .i64 fw, .int .i64 lg, .slice ba nb bk] 90)) = V0 at S0 ⊢
  have t0 : V0.cell? ⟨w.heap.size, 0, none⟩ = some (.int .i64 (fq : Int)) := S0.out.2.cell 0
  have t1 : V0.cell? ⟨w.heap.size, 1, none⟩ = some (.int .i64 fa) := S0.out.2.cell 1
  have t2 : V0.cell? ⟨w.heap.size, 2, none⟩ = some (.int .i64 fw) := S0.out.2.cell 2
  have t3 : V0.cell? ⟨w.heap.size, 3, none⟩ = some (.int .i64 lg) := S0.out.2.cell 3
  have t4 : V0.cell? ⟨w.heap.size, 4, none⟩ = some (.slice ba nb bk) := S0.out.2.cell 4
  have MD : Hid (Below w.heap.size w V0.drew ∧ Box V0.drew w.heap.size 90 #[.int .i64 (fq : Int), .int .i64 fa, .int .i64 fw, .int .i64 lg, .slice ba nb bk]) := ⟨S0.out.1.drew, S0.out.2.drew⟩
  go_wp2_with fail
  refine wp_region_held_drew (S := (fun wx : World => wx.cell? ⟨w.heap.size, 0, none⟩ = some (.int .i64 (fq : Int)) ∧ wx.cell? ⟨w.heap.size, 1, none⟩ = some (.int .i64 fa) ∧ wx.cell? ⟨w.heap.size, 2, none⟩ = some (.int .i64 fw) ∧ wx.cell? ⟨w.heap.size, 3, none⟩ = some (.int .i64 lg) ∧ wx.cell? ⟨w.heap.size, 4, none⟩ = some (.slice ba nb bk))) (by kernel_rfl) ?_ (fun hHeld => ?_)
  · exact ⟨t0, t1, t2, t3, t4⟩
  refine tk 0 ?_
  refine tk 1 ?_
  refine tk 2 ?_
  refine tk 3 ?_
  refine tk 4 ?_
  refine tk 6 ?_
  refine tk 7 ?_
  refine tk 8 ?_
  refine rl 5 fun K hK => ?_
  go_simp
  refine (step79 (fq : Int) fa fw _).mono ?_
  rintro e w1 ⟨rfl, hb1⟩
  have M1 : Hid (Below w.heap.size w w1 ∧ Box w1 w.heap.size 90 #[.int .i64 (fq : Int), .int .i64 fa, .int .i64 fw, .int .i64 lg, .slice ba nb bk]) := ⟨MD.out.1.trans (hb1.mono MD.out.1.size), MD.out.2.mono hb1 (Nat.le_refl _)⟩
  clear hb1
  go_wp2_with fail
  refine hK.out _ _ ?_ (fun hHeld5 => ?_)
  · exact ⟨M1.out.2.cell 0, M1.out.2.cell 1, M1.out.2.cell 2, M1.out.2.cell 3, M1.out.2.cell 4⟩
  clear hK K
  refine rl 9 fun K hK => ?_
  go_simp
  refine (along98 H.out.1 fq fw fa w1 (H.out.2.1.mono M1.out.1 (Nat.le_refl _)) hfq hfa).mono ?_
  rintro e w2 ⟨rfl, hb2⟩
  have M2 : Hid (Below w.heap.size w w2 ∧ Box w2 w.heap.size 90 #[.int .i64 (fq : Int), .int .i64 fa, .int .i64 fw, .int .i64 lg, .slice ba nb bk]) := ⟨M1.out.1.trans (hb2.mono M1.out.1.size), M1.out.2.mono hb2 (Nat.le_refl _)⟩
  clear hb2
  go_wp2_with fail
  refine hK.out _ _ ?_ (fun hHeld9 => ?_)
  · exact ⟨M2.out.2.cell 0, M2.out.2.cell 1, M2.out.2.cell 2, M2.out.2.cell 3, M2.out.2.cell 4⟩
  clear hK K
  refine tk 10 ?_
  refine tk 11 ?_
  refine wpAnyH_done (by kernel_rfl) ?_ _
  clear t0 t1 t2 t3 t4 S0 MD M1
  have t4 : w2.cell? ⟨w.heap.size, 4, none⟩ = some (.slice ba nb bk) := M2.out.2.cell 4
  go_wp2_with fail
  clear t4
  go_loopw [5, 22] (fun u c wr => ∃ (k : Nat) (x : Int), k ≤ nb ∧ c = .int .i64 k ∧ u = .int .i64 x ∧ Hid (x = lg - hvF v (fq : Int) fa fw B k) ∧ Hid (∀ q, q < k → hvF v (fq : Int) fa fw B q < lg) ∧ Hid (Below w.heap.size w wr ∧ Box wr w.heap.size 90 #[.int .i64 (fq : Int), .int .i64 fa, .int .i64 fw, .int .i64 lg, .slice ba nb bk])) (fun _ c _ => nb - (intOf c).toNat)
  case atStart => exact ⟨0, _, Nat.zero_le _, rfl, rfl, by show _ = _; rw [← HF0.out, ← hw0], fun q hq => absurd hq (Nat.not_lt_zero _), M2⟩
  case round =>
    clear M2
    obtain ⟨k, x, hk, rfl, rfl, HX, HK, T⟩ := hrel
    have HBD : Hid (-3000000000 ≤ x ∧ x ≤ 100000) := by
      have h1 := hv_bnd H.out.1 H.out.2.2.2.2 k fun i hi => H.out.2.2.2.1 i (by omega)
      have := HX.out
      show _ ∧ _
      omega
    by_cases hlt : k < nb
    · obtain ⟨bb, bo, hbe, _, hbl, hbc⟩ := H.out.2.2.1 (by omega)
      obtain ⟨sp, HSP, hspn, _⟩ : ∃ q : Nat, Hid (B k 0 = (q : Int)) ∧ q < v.n ∧ (B k 1 = 1 ∨ B k 1 = -1) := step_nat (H.out.2.2.2.1 k hlt)
      have hk0 : (0 : Int) ≤ (k : Int) := by omega
      have hkn : (k : Int) < (nb : Int) := by omega
      have d0 : wr.cell? ⟨bb, bo + k * 2, none⟩ = some (.int .i64 (B k 0)) := cell_keep T.out.1 hbl (hbc k hlt 0 (by omega))
      have d1 : wr.cell? ⟨bb, bo + k * 2 + 1, none⟩ = some (.int .i64 (B k 1)) := cell_keep T.out.1 hbl (hbc k hlt 1 (by omega))
      rw [HSP.out] at d0
      have hbs : ba = some ⟨bb, bo, none⟩ := hbe
      subst hbs
      have hln := H.out.1.ln sp hspn
      have hwx : IntKind.i64.wrap (x - (v.P sp).ln) = x - (v.P sp).ln := by have := HBD.out; rw [IntKind.wrap_i64]; omega
      have HNX : Hid (x - (v.P sp).ln = lg - hvF v (fq : Int) fa fw B (k + 1)) := by show _ = _; rw [hvF, HX.out, HSP.out, Int.toNat_natCast]; omega
      have T1 : Hid ((Below w.heap.size w (wr.alloc (.cells #[.int .i64 (sp : Int), .int .i64 (B k 1)] 74)) ∧ Box (wr.alloc (.cells #[.int .i64 (sp : Int), .int .i64 (B k 1)] 74)) w.heap.size 90 #[.int .i64 (fq : Int), .int .i64 fa, .int .i64 fw, .int .i64 lg, .slice (some ⟨bb, bo, none⟩) nb bk]) ∧ Box (wr.alloc (.cells #[.int .i64 (sp : Int), .int .i64 (B k 1)] 74)) wr.heap.size 74 #[.int .i64 (sp : Int), .int .i64 (B k 1)]) := ⟨⟨T.out.1.alloc T.out.1.size _, T.out.2.alloc _⟩, Box.new _ _ _⟩
      clear hbc hbl T
      by_cases hx : x ≤ 0
      · have HX0 : Hid (lg ≤ hvF v (fq : Int) fa fw B k) := by have := HX.out; show _ ≤ _; omega
        have HE : Hid (Below w.heap.size w (wr.alloc (.cells #[.int .i64 (sp : Int), .int .i64 (B k 1)] 74))) := T1.out.1.1
        clear T1
        go_wp2_with fail
        go_ret
        exact ⟨k, rfl, by omega, fun q hq _ => HK.out q hq, fun _ => HX0.out, HE.out⟩
      · go_upto_region 7 with fail
        generalize (wr.alloc (.cells #[.int .i64 (sp : Int), .int .i64 (B k 1)] 74)) = V5 at T1 ⊢
        generalize wr.heap.size = sq at T1 ⊢
        have s0 : V5.cell? ⟨sq, 0, none⟩ = some (.int .i64 (sp : Int)) := T1.out.2.cell 0
        have s1 : V5.cell? ⟨sq, 1, none⟩ = some (.int .i64 (B k 1)) := T1.out.2.cell 1
        go_wp2_with fail
        refine (long99 H.out.1 sp (B k 1) V5 (H.out.2.1.mono T1.out.1.1 (Nat.le_refl _)) hspn).mono ?_
        rintro e w6 ⟨rfl, hb6⟩
        have HK2 : Hid (∀ q, q < k + 1 → hvF v (fq : Int) fa fw B q < lg) := fun q hq => by
          by_cases c : q = k
          · subst c
            have := HX.out
            omega
          · exact HK.out q (by omega)
        have T8 : Hid (Below w.heap.size w w6 ∧ Box w6 w.heap.size 90 #[.int .i64 (fq : Int), .int .i64 fa, .int .i64 fw, .int .i64 lg, .slice (some ⟨bb, bo, none⟩) nb bk]) := ⟨T1.out.1.1.trans (hb6.mono T1.out.1.1.size), T1.out.1.2.mono hb6 (Nat.le_refl _)⟩
        clear hb6 T1 s0 s1 d0 d1
        go_wp2_with fail
        go_roundw
        case rel => exact ⟨k + 1, _, by omega, by go_num, rfl, HNX, HK2, T8⟩
        case measure => simp [intOf]; omega
    · have hge : ¬ ((k : Int) < (nb : Int)) := by omega
      have hkk : k = nb := by omega
      have t4 : wr.cell? ⟨w.heap.size, 4, none⟩ = some (.slice ba nb bk) := T.out.2.cell 4
      by_cases hx : x ≤ 0
      · have HX0 : Hid (lg ≤ hvF v (fq : Int) fa fw B nb) := by have := HX.out; rw [hkk] at this; show _ ≤ _; omega
        have hx' : ¬ (0 < x) := by omega
        go_wp2_with fail
        go_ret
        exact ⟨nb, rfl, by omega, fun q hq _ => HK.out q (by omega), fun _ => HX0.out, T.out.1⟩
      · have HX0 : Hid (hvF v (fq : Int) fa fw B nb < lg) := by have := HX.out; rw [hkk] at this; show _ < _; omega
        have hx' : 0 < x := by omega
        have hwn : IntKind.i64.wrap ((nb : Int) + 1) = (nb : Int) + 1 := by rw [IntKind.wrap_i64]; omega
        go_wp2_with fail
        go_ret
        exact ⟨nb + 1, rfl, by omega, fun q hq hq2 => by
          by_cases c : q = nb
          · subst c; exact HX0.out
          · exact HK.out q (by omega), fun h => absurd h (by omega), T.out.1⟩

theorem box_grow {W w6 : World} {o : Obj} {B : Nat} {e : TypeId} {c n q : Nat} {vo : Value} {G : Nat → Nat → Value} {T : TypeId} {xs : Array Value} (hb : Box W q T xs) (ho : VOwn B e c W vo n G) (hT : T ≠ e) (hg : (W.alloc o).grownBy w6 vo.ownBlock) : Box w6 q T xs :=
  (hb.alloc o).grown hg (fun h => (ho.alloc o).off (hb.alloc o) hT h rfl)
theorem box_growL {W w6 : World} {o : Obj} {B : Nat} {e : TypeId} {c n q : Nat} {vo : Value} {G : Nat → Nat → Value} {T : TypeId} {xs : Array Value} (hb : Box W q T xs) (ho : VOwn B e c W vo n G) (hq : q < B) (hg : (W.alloc o).grownBy w6 vo.ownBlock) : Box w6 q T xs :=
  (hb.alloc o).grown hg (fun h => by have h8 := (ho.lt h).1; omega)
theorem bel_grow {M : Nat} {w W w6 : World} {o : Obj} {B : Nat} {e : TypeId} {c n : Nat} {vo : Value} {G : Nat → Nat → Value} (hb : Below M w W) (ho : VOwn B e c W vo n G) (hM : M ≤ W.heap.size) (hB : M ≤ B) (hg : (W.alloc o).grownBy w6 vo.ownBlock) : Below M w w6 :=
  (hb.alloc hM o).grown hg (Nat.le_trans hM (bel1 W o).size) (fun _ hj => Nat.le_trans hB (ho.lt hj).1)
theorem VOwn.low {B : Nat} {e : TypeId} {c : Nat} {w : World} {v : Value} {n : Nat} {F : Nat → Nat → Value} (h : VOwn B e c w v n F) {q : Nat} (hq : q < B) (j : Nat) (u : Value) : VOwn B e c (w.setCell ⟨q, j, none⟩ u) v n F :=
  h.keep (Nat.le_refl _) fun g hg => Below.heap_setCell w _ u g (by have := (h.lt hg).1; show g ≠ q; omega)
theorem next_pc {v : Nv} (ok : v.Ok) {L : Nat → Int} {p : Nat} {wa : Int} (hp : p < v.n) (hl : ∀ i, i < v.m → lieB v.J L i = true) (h0 : (exitAt v L p wa).2 = 0) : ∃ q : Nat, (nextAt v L p wa).pc = (q : Int) ∧ q < v.n := by
  obtain ⟨g0, g1, g2⟩ : 0 ≤ (headE p wa).pc ∧ (headE p wa).pc < v.n ∧ ((headE p wa).sd = 0 ∨ (headE p wa).sd = 1) := by
    refine ⟨by show (0 : Int) ≤ (p : Int); omega, by show (p : Int) < (v.n : Int); omega, ?_⟩
    show (if wa = 1 then (1 : Int) else 0) = 0 ∨ (if wa = 1 then (1 : Int) else 0) = 1
    split
    · exact Or.inr rfl
    · exact Or.inl rfl
  obtain ⟨j, k, hat, hja, hjm, hkn, hEk, hk1, hk2, hk3⟩ := ok.there g0 g1 g2
  rw [exitAt, hat] at h0
  rw [nextAt, exitAt, hat]
  have h := ok.en j hjm _ (exit_lt ok hjm hkn (hl j hjm) h0)
  exact ⟨_, (Int.toNat_of_nonneg h.1).symm, by have h2 := h.2.1; have h1 := h.1; omega⟩
theorem wayOf_two (e : En) : wayOf e = 1 ∨ wayOf e = -1 := by
  unfold wayOf
  split
  · exact Or.inr rfl
  · exact Or.inl rfl
theorem VOwn.high {B : Nat} {e : TypeId} {c : Nat} {w : World} {v : Value} {n : Nat} {F : Nat → Nat → Value} (h : VOwn B e c w v n F) {q : Nat} (hq : ∀ g, v.ownBlock = some g → g < q) (j : Nat) (u : Value) : VOwn B e c (w.setCell ⟨q, j, none⟩ u) v n F :=
  h.keep (Nat.le_refl _) fun g hg => Below.heap_setCell w _ u g (by have := hq g hg; show g ≠ q; omega)
/-- the steps over which a train is laid, its front's own first -/
def plS (v : Nv) (L : Nat → Int) (fq : Nat) (fw : Int) : Nat → Nat × Int
  | 0 => (fq, fw)
  | k + 1 => ((nextAt v L (plS v L fq fw k).1 (-(plS v L fq fw k).2)).pc.toNat, -(wayOf (nextAt v L (plS v L fq fw k).1 (-(plS v L fq fw k).2))))
def plB (v : Nv) (L : Nat → Int) (fq : Nat) (fw : Int) (i c : Nat) : Int := if c = 0 then ((plS v L fq fw (i + 1)).1 : Int) else (plS v L fq fw (i + 1)).2
/-- why one comes no farther back -/
def plC (v : Nv) (L : Nat → Int) (fq : Nat) (fw : Int) (k : Nat) : Int := (exitAt v L (plS v L fq fw k).1 (-(plS v L fq fw k).2)).2
theorem pl_ahP (v : Nv) (L : Nat → Int) (fq : Nat) (fw : Int) (k : Nat) : ahP (fq : Int) (plB v L fq fw) k = ((plS v L fq fw k).1 : Int) := by
  cases k <;> rfl
theorem pl_ahW (v : Nv) (L : Nat → Int) (fq : Nat) (fw : Int) (k : Nat) : ahW fw (plB v L fq fw) k = (plS v L fq fw k).2 := by
  cases k <;> rfl
theorem plS_ok {v : Nv} (ok : v.Ok) {L : Nat → Int} (hl : ∀ i, i < v.m → lieB v.J L i = true) {fq : Nat} {fw : Int} (hf : fq < v.n) (hw : fw = 1 ∨ fw = -1) : ∀ k, (∀ i, i < k → plC v L fq fw i = 0) → (plS v L fq fw k).1 < v.n ∧ ((plS v L fq fw k).2 = 1 ∨ (plS v L fq fw k).2 = -1)
  | 0, _ => ⟨hf, hw⟩
  | k + 1, h => by
    have h1 := (plS_ok ok hl hf hw k fun i hi => h i (by omega)).1
    obtain ⟨q, hq, hqn⟩ := next_pc ok h1 hl (h k (by omega))
    refine ⟨?_, ?_⟩
    · show (nextAt v L (plS v L fq fw k).1 (-(plS v L fq fw k).2)).pc.toNat < v.n
      rw [hq, Int.toNat_natCast]
      exact hqn
    · show -(wayOf (nextAt v L (plS v L fq fw k).1 (-(plS v L fq fw k).2))) = 1 ∨ -(wayOf (nextAt v L (plS v L fq fw k).1 (-(plS v L fq fw k).2))) = -1
      rcases wayOf_two (nextAt v L (plS v L fq fw k).1 (-(plS v L fq fw k).2)) with e | e <;> rw [e] <;> omega
theorem pl_step {v : Nv} (ok : v.Ok) {L : Nat → Int} (hl : ∀ i, i < v.m → lieB v.J L i = true) {fq : Nat} {fw : Int} (hf : fq < v.n) (hw : fw = 1 ∨ fw = -1) {k : Nat} (h : ∀ i, i < k → plC v L fq fw i = 0) : ∀ i, i < k → stepB v (plB v L fq fw i 0) (plB v L fq fw i 1) = true := fun i hi => by
  obtain ⟨h1, h2⟩ := plS_ok ok hl hf hw (i + 1) fun j hj => h j (by omega)
  have e0 : plB v L fq fw i 0 = ((plS v L fq fw (i + 1)).1 : Int) := rfl
  have e1 : plB v L fq fw i 1 = (plS v L fq fw (i + 1)).2 := rfl
  rw [stepB, e0, e1, Bool.and_eq_true, Bool.or_eq_true, decide_eq_true_eq, decide_eq_true_eq]
  refine ⟨?_, h2⟩
  simp only [inB, Bool.and_eq_true, decide_eq_true_eq]
  omega
/-- over how many steps it is laid -/
def plG (h : Nat → Int) (lg : Int) (cd : Nat → Int) : Nat → Nat → Option Nat
  | 0, k => if lg ≤ h k then some k else none
  | f + 1, k => if lg ≤ h k then some k else if cd k = 0 then plG h lg cd f (k + 1) else none
theorem plG_in {h : Nat → Int} {lg : Int} {cd : Nat → Int} {f k : Nat} (h1 : lg ≤ h k) : plG h lg cd f k = some k := by
  cases f <;> exact if_pos h1
theorem plG_no {h : Nat → Int} {lg : Int} {cd : Nat → Int} {f k : Nat} (h1 : ¬ lg ≤ h k) (h2 : cd k ≠ 0 ∨ f = 0) : plG h lg cd f k = none := by
  cases f with
  | zero => exact if_neg h1
  | succ f =>
    show (if lg ≤ h k then some k else if cd k = 0 then plG h lg cd f (k + 1) else none) = none
    rw [if_neg h1, if_neg (by omega)]
theorem plG_on {h : Nat → Int} {lg : Int} {cd : Nat → Int} {k : Nat} (h1 : ¬ lg ≤ h k) (h2 : cd k = 0) (hk : k < 200) : plG h lg cd (200 - k) k = plG h lg cd (200 - (k + 1)) (k + 1) := by
  obtain ⟨f, hf⟩ : ∃ f, 200 - k = f + 1 := ⟨200 - (k + 1), by omega⟩
  rw [hf, show 200 - (k + 1) = f by omega]
  show (if lg ≤ h k then some k else if cd k = 0 then plG h lg cd f (k + 1) else none) = _
  rw [if_neg h1, if_pos h2]
def plH (v : Nv) (L : Nat → Int) (fp fa fw : Int) : Nat → Int := hvF v fp fa fw (plB v L fp.toNat fw)
/-- what Place finds -/
def plO (v : Nv) (nl : Nat) (L : Nat → Int) (fp fa fw lg : Int) : Option Nat := if (liesF v.n v.P v.m v.J nl L && spotB v fp fa fw) && inB lg 1 100000 then plG (plH v L fp fa fw) lg (plC v L fp.toNat fw) 200 0 else none
def plI (o : Option Nat) (x : Int) : Int := if o.isSome then x else 0
/-- what Place answers -/
def PlR (w : World) (o : Option Nat) (fp fa fw lg : Int) (B : Nat → Nat → Int) (e : Ending) (w' : World) : Prop := ∃ a c, e = .returned (.agg #[.bool o.isSome, .int .i64 (plI o fp), .int .i64 (plI o fa), .int .i64 (plI o fw), .int .i64 (plI o lg), .slice a (o.getD 0) c]) ∧ VOwn w.heap.size 74 2 w' (.slice a (o.getD 0) c) (o.getD 0) (intF B) ∧ Below w.heap.size w w'
theorem pl_yes {w : World} {o : Option Nat} {fp fa fw lg : Int} {B : Nat → Nat → Int} {e : Ending} {w' : World} {a : Option Addr} {c k : Nat} (h : o = some k) (he : e = .returned (.agg #[.bool true, .int .i64 fp, .int .i64 fa, .int .i64 fw, .int .i64 lg, .slice a k c])) (ho : VOwn w.heap.size 74 2 w' (.slice a k c) k (intF B)) (hb : Below w.heap.size w w') : PlR w o fp fa fw lg B e w' := by
  subst h
  exact ⟨a, c, he, ho, hb⟩
theorem pl_no {w : World} {o : Option Nat} {fp fa fw lg : Int} {B : Nat → Nat → Int} {e : Ending} {w' : World} (h : o = none) (he : e = .returned (.agg #[.bool false, .int .i64 0, .int .i64 0, .int .i64 0, .int .i64 0, .slice none 0 0])) (hb : Below w.heap.size w w') : PlR w o fp fa fw lg B e w' := by
  subst h
  exact ⟨none, 0, he, VOwn.nil _ _ _ _ _, hb⟩
theorem turnedAny (p wy : Int) (w : World) :
    Calls Tryz.prog 92 #[.agg #[.int .i64 p, .int .i64 wy]] w fun e w' => ∃ y : Int, e = .returned (.agg #[.int .i64 p, .int .i64 y]) ∧ (wy = 1 ∨ wy = -1 → y = -wy) ∧ Below w.heap.size w w' := by
  go_enter Tryz.func92, Tryz.ntmps92
  go_wp2
  exact bodyPost_ret (v := .agg #[.int .i64 p, .int .i64 (wrap64 (-wy))]) (by simp [results, Tryz.results92, go_sem]) rfl ⟨_, rfl, fun h => by rcases h with rfl | rfl <;> first | kernel_rfl | simp [wrap64], bel2 _ _ _⟩
set_option maxRecDepth 100000 in
set_option maxHeartbeats 16000000 in
theorem last47 (fp fa fw lg : Int) (nb : Nat) (B : Nat → Nat → Int) (ba : Option Addr) (bk : Nat) (w : World) (hnb : nb ≤ 1048576) (hB : NsAt 2 0 w ba nb B) :
    Calls Tryz.prog 47 #[.agg #[.int .i64 fp, .int .i64 fa, .int .i64 fw, .int .i64 lg, .slice ba nb bk]] w fun e w' => e = .returned (.agg #[.int .i64 (ahP fp B nb), .int .i64 (ahW fw B nb)]) ∧ Below w.heap.size w w' := by
  by_cases hz : nb = 0
  · subst hz
    have S0 : Hid (Below w.heap.size w ((w.alloc (.cells #[.int .i64 fp, .int .i64 fa, .int .i64 fw, .int .i64 lg, .slice ba 0 bk] 90)).alloc (.cells #[.int .i64 0, .int .i64 0] 74)) ∧ Box ((w.alloc (.cells #[.int .i64 fp, .int .i64 fa, .int .i64 fw, .int .i64 lg, .slice ba 0 bk] 90)).alloc (.cells #[.int .i64 0, .int .i64 0] 74)) (w.heap.size) 90 #[.int .i64 fp, .int .i64 fa, .int .i64 fw, .int .i64 lg, .slice ba 0 bk] ∧ Box ((w.alloc (.cells #[.int .i64 fp, .int .i64 fa, .int .i64 fw, .int .i64 lg, .slice ba 0 bk] 90)).alloc (.cells #[.int .i64 0, .int .i64 0] 74)) (w.heap.size + 1) 74 #[.int .i64 0, .int .i64 0]) := ⟨bel2 _ _ _, ((Box.new w 90 #[.int .i64 fp, .int .i64 fa, .int .i64 fw, .int .i64 lg, .slice ba 0 bk]).alloc (.cells #[.int .i64 0, .int .i64 0] 74)), by have := (Box.new (w.alloc (.cells #[.int .i64 fp, .int .i64 fa, .int .i64 fw, .int .i64 lg, .slice ba 0 bk] 90)) 74 #[.int .i64 0, .int .i64 0]); simpa using this⟩
    clear hB
    go_enter Tryz.func47, Tryz.ntmps47
    go_upto_region 1 with fail
    generalize ((w.alloc (.cells #[.int .i64 fp, .int .i64 fa, .int .i64 fw, .int .i64 lg, .slice ba 0 bk] 90)).alloc (.cells #[.int .i64 0, .int .i64 0] 74)) = V0 at S0 ⊢
    have a0 : V0.cell? ⟨w.heap.size, 0, none⟩ = some (.int .i64 fp) := S0.out.2.1.cell 0
    have a1 : V0.cell? ⟨w.heap.size, 1, none⟩ = some (.int .i64 fa) := S0.out.2.1.cell 1
    have a2 : V0.cell? ⟨w.heap.size, 2, none⟩ = some (.int .i64 fw) := S0.out.2.1.cell 2
    have a3 : V0.cell? ⟨w.heap.size, 3, none⟩ = some (.int .i64 lg) := S0.out.2.1.cell 3
    have a4 : V0.cell? ⟨w.heap.size, 4, none⟩ = some (.slice ba 0 bk) := S0.out.2.1.cell 4
    have b0 : V0.cell? ⟨w.heap.size + 1, 0, none⟩ = some (.int .i64 0) := S0.out.2.2.cell 0
    have b1 : V0.cell? ⟨w.heap.size + 1, 1, none⟩ = some (.int .i64 0) := S0.out.2.2.cell 1
    go_wp2_with fail
    clear a0 a1 a2 a3 a4 b0 b1
    refine (step79 fp fa fw V0).mono ?_
    rintro e w1 ⟨rfl, hb⟩
    have MA1 : Hid (Below w.heap.size w w1 ∧ Box w1 (w.heap.size) 90 #[.int .i64 fp, .int .i64 fa, .int .i64 fw, .int .i64 lg, .slice ba 0 bk] ∧ Box w1 (w.heap.size + 1) 74 #[.int .i64 0, .int .i64 0]) := ⟨S0.out.1.trans (hb.mono S0.out.1.size), S0.out.2.1.mono hb (Nat.le_refl _), S0.out.2.2.mono hb (Nat.le_refl _)⟩
    clear hb S0
    have z0 : w1.cell? ⟨w.heap.size + 1, 0, none⟩ = some (.int .i64 0) := MA1.out.2.2.cell 0
    have z1 : w1.cell? ⟨w.heap.size + 1, 1, none⟩ = some (.int .i64 0) := MA1.out.2.2.cell 1
    have zf0 := MA1.out.2.2.free 0
    have zf1 := MA1.out.2.2.free 1
    have MA2 : Hid (Below w.heap.size w ((w1.setCell ⟨w.heap.size + 1, 0, none⟩ (.int .i64 fp)).setCell ⟨w.heap.size + 1, 1, none⟩ (.int .i64 fw)) ∧ Box ((w1.setCell ⟨w.heap.size + 1, 0, none⟩ (.int .i64 fp)).setCell ⟨w.heap.size + 1, 1, none⟩ (.int .i64 fw)) (w.heap.size) 90 #[.int .i64 fp, .int .i64 fa, .int .i64 fw, .int .i64 lg, .slice ba 0 bk] ∧ Box ((w1.setCell ⟨w.heap.size + 1, 0, none⟩ (.int .i64 fp)).setCell ⟨w.heap.size + 1, 1, none⟩ (.int .i64 fw)) (w.heap.size + 1) 74 #[.int .i64 fp, .int .i64 fw]) := ⟨((MA1.out.1.setCell (Nat.le_add_right _ 1) _).setCell (Nat.le_add_right _ 1) _), ((MA1.out.2.1.other (box_ne MA1.out.2.1 MA1.out.2.2 (by decide)) _).other (box_ne MA1.out.2.1 MA1.out.2.2 (by decide)) _), by have h9 := ((MA1.out.2.2.set 0 (.int .i64 fp)).set 1 (.int .i64 fw)); exact h9⟩
    clear MA1
    go_wp2_with fail
    clear z0 z1 zf0 zf1
    generalize ((w1.setCell ⟨w.heap.size + 1, 0, none⟩ (.int .i64 fp)).setCell ⟨w.heap.size + 1, 1, none⟩ (.int .i64 fw)) = W9 at MA2 ⊢
    have z0 : W9.cell? ⟨w.heap.size + 1, 0, none⟩ = some (.int .i64 fp) := MA2.out.2.2.cell 0
    have z1 : W9.cell? ⟨w.heap.size + 1, 1, none⟩ = some (.int .i64 fw) := MA2.out.2.2.cell 1
    exact bodyPost_ret (v := .agg #[.int .i64 fp, .int .i64 fw]) (by simp [results, Tryz.results47, go_sem, z0, z1]) rfl (⟨rfl, MA2.out.1⟩)
  · obtain ⟨bb, bo, rfl, _, hbl, hbc⟩ := hB (by omega)
    have HC : Hid (bb < w.heap.size ∧ w.cell? ⟨bb, bo + (nb - 1) * 2, none⟩ = some (.int .i64 (B (nb - 1) 0)) ∧ w.cell? ⟨bb, bo + (nb - 1) * 2 + 1, none⟩ = some (.int .i64 (B (nb - 1) 1))) := ⟨hbl, hbc (nb - 1) (by omega) 0 (by omega), hbc (nb - 1) (by omega) 1 (by omega)⟩
    have HV : Hid (ahP fp B nb = B (nb - 1) 0 ∧ ahW fw B nb = B (nb - 1) 1) := by
      obtain ⟨j, rfl⟩ : ∃ j, nb = j + 1 := ⟨nb - 1, by omega⟩
      exact ⟨rfl, rfl⟩
    rw [HV.out.1, HV.out.2]
    obtain ⟨q0, HQ0⟩ : ∃ q, Hid (B (nb - 1) 0 = q) := ⟨_, rfl⟩
    obtain ⟨q1, HQ1⟩ : ∃ q, Hid (B (nb - 1) 1 = q) := ⟨_, rfl⟩
    obtain ⟨m, HM⟩ : ∃ m : Nat, Hid (nb - 1 = m) := ⟨_, rfl⟩
    rw [HQ0.out, HQ1.out]
    have hsub : IntKind.i64.wrap ((nb : Int) - 1) = (m : Int) := by have := HM.out; rw [IntKind.wrap_i64]; omega
    have hz' : ((nb : Int) == 0) = false := by simp; omega
    have hm0 : (0 : Int) ≤ (m : Int) := by omega
    have hm1 : (m : Int) < (nb : Int) := by have := HM.out; omega
    have S0 : Hid (Below w.heap.size w ((w.alloc (.cells #[.int .i64 fp, .int .i64 fa, .int .i64 fw, .int .i64 lg, .slice (some ⟨bb, bo, none⟩) nb bk] 90)).alloc (.cells #[.int .i64 0, .int .i64 0] 74)) ∧ Box ((w.alloc (.cells #[.int .i64 fp, .int .i64 fa, .int .i64 fw, .int .i64 lg, .slice (some ⟨bb, bo, none⟩) nb bk] 90)).alloc (.cells #[.int .i64 0, .int .i64 0] 74)) (w.heap.size) 90 #[.int .i64 fp, .int .i64 fa, .int .i64 fw, .int .i64 lg, .slice (some ⟨bb, bo, none⟩) nb bk] ∧ Box ((w.alloc (.cells #[.int .i64 fp, .int .i64 fa, .int .i64 fw, .int .i64 lg, .slice (some ⟨bb, bo, none⟩) nb bk] 90)).alloc (.cells #[.int .i64 0, .int .i64 0] 74)) (w.heap.size + 1) 74 #[.int .i64 0, .int .i64 0]) := ⟨bel2 _ _ _, ((Box.new w 90 #[.int .i64 fp, .int .i64 fa, .int .i64 fw, .int .i64 lg, .slice (some ⟨bb, bo, none⟩) nb bk]).alloc (.cells #[.int .i64 0, .int .i64 0] 74)), by have := (Box.new (w.alloc (.cells #[.int .i64 fp, .int .i64 fa, .int .i64 fw, .int .i64 lg, .slice (some ⟨bb, bo, none⟩) nb bk] 90)) 74 #[.int .i64 0, .int .i64 0]); simpa using this⟩
    clear hbc hbl hz
    go_enter Tryz.func47, Tryz.ntmps47
    go_upto_region 1 with fail
    generalize ((w.alloc (.cells #[.int .i64 fp, .int .i64 fa, .int .i64 fw, .int .i64 lg, .slice (some ⟨bb, bo, none⟩) nb bk] 90)).alloc (.cells #[.int .i64 0, .int .i64 0] 74)) = V0 at S0 ⊢
    have a0 : V0.cell? ⟨w.heap.size, 0, none⟩ = some (.int .i64 fp) := S0.out.2.1.cell 0
    have a1 : V0.cell? ⟨w.heap.size, 1, none⟩ = some (.int .i64 fa) := S0.out.2.1.cell 1
    have a2 : V0.cell? ⟨w.heap.size, 2, none⟩ = some (.int .i64 fw) := S0.out.2.1.cell 2
    have a3 : V0.cell? ⟨w.heap.size, 3, none⟩ = some (.int .i64 lg) := S0.out.2.1.cell 3
    have a4 : V0.cell? ⟨w.heap.size, 4, none⟩ = some (.slice (some ⟨bb, bo, none⟩) nb bk) := S0.out.2.1.cell 4
    have b0 : V0.cell? ⟨w.heap.size + 1, 0, none⟩ = some (.int .i64 0) := S0.out.2.2.cell 0
    have b1 : V0.cell? ⟨w.heap.size + 1, 1, none⟩ = some (.int .i64 0) := S0.out.2.2.cell 1
    have d0 : V0.cell? ⟨bb, bo + m * 2, none⟩ = some (.int .i64 q0) := by have h9 := cell_keep S0.out.1 HC.out.1 HC.out.2.1; rw [HQ0.out, HM.out] at h9; exact h9
    have d1 : V0.cell? ⟨bb, bo + m * 2 + 1, none⟩ = some (.int .i64 q1) := by have h9 := cell_keep S0.out.1 HC.out.1 HC.out.2.2; rw [HQ1.out, HM.out] at h9; exact h9
    have z0 : V0.cell? ⟨w.heap.size + 1, 0, none⟩ = some (.int .i64 0) := S0.out.2.2.cell 0
    have z1 : V0.cell? ⟨w.heap.size + 1, 1, none⟩ = some (.int .i64 0) := S0.out.2.2.cell 1
    have zf0 := S0.out.2.2.free 0
    have zf1 := S0.out.2.2.free 1
    have MA3 : Hid (Below w.heap.size w ((V0.setCell ⟨w.heap.size + 1, 0, none⟩ (.int .i64 q0)).setCell ⟨w.heap.size + 1, 1, none⟩ (.int .i64 q1)) ∧ Box ((V0.setCell ⟨w.heap.size + 1, 0, none⟩ (.int .i64 q0)).setCell ⟨w.heap.size + 1, 1, none⟩ (.int .i64 q1)) (w.heap.size) 90 #[.int .i64 fp, .int .i64 fa, .int .i64 fw, .int .i64 lg, .slice (some ⟨bb, bo, none⟩) nb bk] ∧ Box ((V0.setCell ⟨w.heap.size + 1, 0, none⟩ (.int .i64 q0)).setCell ⟨w.heap.size + 1, 1, none⟩ (.int .i64 q1)) (w.heap.size + 1) 74 #[.int .i64 q0, .int .i64 q1]) := ⟨((S0.out.1.setCell (Nat.le_add_right _ 1) _).setCell (Nat.le_add_right _ 1) _), ((S0.out.2.1.other (box_ne S0.out.2.1 S0.out.2.2 (by decide)) _).other (box_ne S0.out.2.1 S0.out.2.2 (by decide)) _), by have h9 := ((S0.out.2.2.set 0 (.int .i64 q0)).set 1 (.int .i64 q1)); exact h9⟩
    clear S0
    go_wp2_with fail
    clear d0 d1 a0 a1 a2 a3 a4 b0 b1 z0 z1 zf0 zf1
    generalize ((V0.setCell ⟨w.heap.size + 1, 0, none⟩ (.int .i64 q0)).setCell ⟨w.heap.size + 1, 1, none⟩ (.int .i64 q1)) = W9 at MA3 ⊢
    have z0 : W9.cell? ⟨w.heap.size + 1, 0, none⟩ = some (.int .i64 q0) := MA3.out.2.2.cell 0
    have z1 : W9.cell? ⟨w.heap.size + 1, 1, none⟩ = some (.int .i64 q1) := MA3.out.2.2.cell 1
    exact bodyPost_ret (v := .agg #[.int .i64 q0, .int .i64 q1]) (by simp [results, Tryz.results47, go_sem, z0, z1]) rfl (⟨rfl, MA3.out.1⟩)
def CfR (w : World) (v : Nv) (L : Nat → Int) (p : Nat) (wy : Int) (e : Ending) (w' : World) : Prop := ∃ a b : Int, e = .returned (.tuple #[.agg #[.int .i64 a, .int .i64 b], .int .i64 (exitAt v L p (-wy)).2]) ∧ ((exitAt v L p (-wy)).2 = 0 → a = (nextAt v L p (-wy)).pc ∧ b = -(wayOf (nextAt v L p (-wy)))) ∧ Below w.heap.size w w'
theorem cf_mk {w : World} {v : Nv} {L : Nat → Int} {p : Nat} {wy : Int} {w' : World} {a b cd y : Int} (hc : (exitAt v L p (-wy)).2 = cd) (h : cd = 0 → a = (nextAt v L p (-wy)).pc ∧ b = wayOf (nextAt v L p (-wy))) (hy : b = 1 ∨ b = -1 → y = -b) (hb : Below w.heap.size w w') : CfR w v L p wy (.returned (.tuple #[.agg #[.int .i64 a, .int .i64 y], .int .i64 cd])) w' := by
  subst hc
  refine ⟨a, y, rfl, fun h0 => ⟨(h h0).1, ?_⟩, hb⟩
  rw [← (h h0).2]
  exact hy (by rw [(h h0).2]; exact wayOf_two _)
set_option maxRecDepth 100000 in
set_option maxHeartbeats 16000000 in
theorem comes46 {v : Nv} (ok : v.Ok) {bt sb : Nat} {pa : Option Addr} {pc : Nat} {ja : Option Addr} {jc : Nat} (p : Nat) (wy : Int) (la : Option Addr) (lc : Nat) (L : Nat → Int) (w : World) (h : TkAt w bt sb v pa pc ja jc) (hp : p < v.n) (hwy : wy = 1 ∨ wy = -1) (hL : IsAt 0 w la v.m L) (hl : ∀ i, i < v.m → lieB v.J L i = true) :
    Calls Tryz.prog 46 #[.agg #[.pointer (some ⟨bt, 0, none⟩), .slice la v.m lc], .agg #[.int .i64 (p : Int), .int .i64 wy]] w fun e w' => CfR w v L p wy e w' := by
  have H : Hid (v.Ok ∧ TkAt w bt sb v pa pc ja jc ∧ IsAt 0 w la v.m L ∧ (∀ i, i < v.m → lieB v.J L i = true)) := ⟨ok, h, hL, hl⟩
  have hwn : -wy = 1 ∨ -wy = -1 := by omega
  have HNE : Hid (w.heap.size + 1 ≠ w.heap.size + 1 + 1) := by show _ ≠ _; omega
  obtain ⟨cd, HCD⟩ : ∃ cd, Hid ((exitAt v L p (-wy)).2 = cd) := ⟨_, rfl⟩
  have S0 : Hid (Below w.heap.size w (((w.alloc (.cells #[.pointer (some ⟨bt, 0, none⟩), .slice la v.m lc] 87)).alloc (.cells #[.int .i64 (p : Int), .int .i64 wy] 74)).alloc (.cells #[.int .i64 0, .int .i64 0] 74)) ∧ Box (((w.alloc (.cells #[.pointer (some ⟨bt, 0, none⟩), .slice la v.m lc] 87)).alloc (.cells #[.int .i64 (p : Int), .int .i64 wy] 74)).alloc (.cells #[.int .i64 0, .int .i64 0] 74)) (w.heap.size) 87 #[.pointer (some ⟨bt, 0, none⟩), .slice la v.m lc] ∧ Box (((w.alloc (.cells #[.pointer (some ⟨bt, 0, none⟩), .slice la v.m lc] 87)).alloc (.cells #[.int .i64 (p : Int), .int .i64 wy] 74)).alloc (.cells #[.int .i64 0, .int .i64 0] 74)) (w.heap.size + 1) 74 #[.int .i64 (p : Int), .int .i64 wy] ∧ Box (((w.alloc (.cells #[.pointer (some ⟨bt, 0, none⟩), .slice la v.m lc] 87)).alloc (.cells #[.int .i64 (p : Int), .int .i64 wy] 74)).alloc (.cells #[.int .i64 0, .int .i64 0] 74)) (w.heap.size + 1 + 1) 74 #[.int .i64 0, .int .i64 0]) := ⟨((Below.refl _ _).alloc (Nat.le_refl _) _ |>.alloc (by simp) _ |>.alloc (by simp; omega) _), (((Box.new w 87 #[.pointer (some ⟨bt, 0, none⟩), .slice la v.m lc]).alloc (.cells #[.int .i64 (p : Int), .int .i64 wy] 74)).alloc (.cells #[.int .i64 0, .int .i64 0] 74)), by have := ((Box.new (w.alloc (.cells #[.pointer (some ⟨bt, 0, none⟩), .slice la v.m lc] 87)) 74 #[.int .i64 (p : Int), .int .i64 wy]).alloc (.cells #[.int .i64 0, .int .i64 0] 74)); simpa using this, by have := (Box.new ((w.alloc (.cells #[.pointer (some ⟨bt, 0, none⟩), .slice la v.m lc] 87)).alloc (.cells #[.int .i64 (p : Int), .int .i64 wy] 74)) 74 #[.int .i64 0, .int .i64 0]); simpa using this⟩
  clear ok h hL hl
  go_enter Tryz.func46, Tryz.ntmps46
  go_upto_region 1 with fail
  generalize (((w.alloc (.cells #[.pointer (some ⟨bt, 0, none⟩), .slice la v.m lc] 87)).alloc (.cells #[.int .i64 (p : Int), .int .i64 wy] 74)).alloc (.cells #[.int .i64 0, .int .i64 0] 74)) = V0 at S0 ⊢
  have a0 : V0.cell? ⟨w.heap.size, 0, none⟩ = some (.pointer (some ⟨bt, 0, none⟩)) := S0.out.2.1.cell 0
  have a1 : V0.cell? ⟨w.heap.size, 1, none⟩ = some (.slice la v.m lc) := S0.out.2.1.cell 1
  have b0 : V0.cell? ⟨w.heap.size + 1, 0, none⟩ = some (.int .i64 (p : Int)) := S0.out.2.2.1.cell 0
  have b1 : V0.cell? ⟨w.heap.size + 1, 1, none⟩ = some (.int .i64 wy) := S0.out.2.2.1.cell 1
  go_wp2_with fail
  refine wp_region_held_drew (S := (fun wx : World => wx.cell? ⟨w.heap.size, 0, none⟩ = some (.pointer (some ⟨bt, 0, none⟩)) ∧ wx.cell? ⟨w.heap.size, 1, none⟩ = some (.slice la v.m lc) ∧ wx.cell? ⟨w.heap.size + 1, 0, none⟩ = some (.int .i64 (p : Int)) ∧ wx.cell? ⟨w.heap.size + 1, 1, none⟩ = some (.int .i64 wy))) (by kernel_rfl) ?_ (fun hHeld => ?_)
  · exact ⟨a0, a1, b0, b1⟩
  have MD4 : Hid (Below w.heap.size w V0.drew ∧ Box V0.drew (w.heap.size) 87 #[.pointer (some ⟨bt, 0, none⟩), .slice la v.m lc] ∧ Box V0.drew (w.heap.size + 1) 74 #[.int .i64 (p : Int), .int .i64 wy] ∧ Box V0.drew (w.heap.size + 1 + 1) 74 #[.int .i64 0, .int .i64 0]) := ⟨S0.out.1.drew, S0.out.2.1.drew, S0.out.2.2.1.drew, S0.out.2.2.2.drew⟩
  clear a0 a1 b0 b1 S0
  generalize V0.drew = VD at MD4 hHeld ⊢
  refine tk 0 ?_
  refine tk 1 ?_
  refine rl 2 fun K hK => ?_
  go_simp
  refine (turned101 (p : Int) wy _ hwy).mono ?_
  rintro e wh5 ⟨rfl, hb⟩
  have MA6 : Hid (Below w.heap.size w wh5 ∧ Box wh5 (w.heap.size) 87 #[.pointer (some ⟨bt, 0, none⟩), .slice la v.m lc] ∧ Box wh5 (w.heap.size + 1) 74 #[.int .i64 (p : Int), .int .i64 wy] ∧ Box wh5 (w.heap.size + 1 + 1) 74 #[.int .i64 0, .int .i64 0]) := ⟨MD4.out.1.trans (hb.mono MD4.out.1.size), MD4.out.2.1.mono hb (Nat.le_refl _), MD4.out.2.2.1.mono hb (Nat.le_refl _), MD4.out.2.2.2.mono hb (Nat.le_refl _)⟩
  clear hb MD4
  go_wp2_with fail
  refine hK.out _ _ ?_ (fun hHeld => ?_)
  · exact ⟨MA6.out.2.1.cell 0, MA6.out.2.1.cell 1, MA6.out.2.2.1.cell 0, MA6.out.2.2.1.cell 1⟩
  clear hK K
  refine rl 3 fun K hK => ?_
  go_simp
  refine (over80 H.out.1 p (-wy) la lc L _ (H.out.2.1.mono MA6.out.1 (Nat.le_refl _)) hp hwn (H.out.2.2.1.mono (Nat.le_refl _) MA6.out.1 (Nat.le_refl _)) H.out.2.2.2).mono ?_
  rintro e wh7 ⟨a, b, he, hab, hb⟩
  have HAB : Hid (cd = 0 → a = (nextAt v L p (-wy)).pc ∧ b = wayOf (nextAt v L p (-wy))) := by rw [HCD.out] at hab; exact hab
  rw [HCD.out] at he
  subst he
  clear hab
  have MA8 : Hid (Below w.heap.size w wh7 ∧ Box wh7 (w.heap.size) 87 #[.pointer (some ⟨bt, 0, none⟩), .slice la v.m lc] ∧ Box wh7 (w.heap.size + 1) 74 #[.int .i64 (p : Int), .int .i64 wy] ∧ Box wh7 (w.heap.size + 1 + 1) 74 #[.int .i64 0, .int .i64 0]) := ⟨MA6.out.1.trans (hb.mono MA6.out.1.size), MA6.out.2.1.mono hb (Nat.le_refl _), MA6.out.2.2.1.mono hb (Nat.le_refl _), MA6.out.2.2.2.mono hb (Nat.le_refl _)⟩
  clear hb MA6
  go_wp2_with fail
  refine hK.out _ _ ?_ (fun hHeld => ?_)
  · exact ⟨MA8.out.2.1.cell 0, MA8.out.2.1.cell 1, MA8.out.2.2.1.cell 0, MA8.out.2.2.1.cell 1⟩
  clear hK K
  refine tk 4 ?_
  refine tk 5 ?_
  refine tk 6 ?_
  have z0 : wh7.cell? ⟨w.heap.size + 1 + 1, 0, none⟩ = some (.int .i64 0) := MA8.out.2.2.2.cell 0
  have z1 : wh7.cell? ⟨w.heap.size + 1 + 1, 1, none⟩ = some (.int .i64 0) := MA8.out.2.2.2.cell 1
  have zf0 := MA8.out.2.2.2.free 0
  have zf1 := MA8.out.2.2.2.free 1
  have MA9 : Hid (Below w.heap.size w ((wh7.setCell ⟨w.heap.size + 1 + 1, 0, none⟩ (.int .i64 a)).setCell ⟨w.heap.size + 1 + 1, 1, none⟩ (.int .i64 b)) ∧ Box ((wh7.setCell ⟨w.heap.size + 1 + 1, 0, none⟩ (.int .i64 a)).setCell ⟨w.heap.size + 1 + 1, 1, none⟩ (.int .i64 b)) (w.heap.size) 87 #[.pointer (some ⟨bt, 0, none⟩), .slice la v.m lc] ∧ Box ((wh7.setCell ⟨w.heap.size + 1 + 1, 0, none⟩ (.int .i64 a)).setCell ⟨w.heap.size + 1 + 1, 1, none⟩ (.int .i64 b)) (w.heap.size + 1) 74 #[.int .i64 (p : Int), .int .i64 wy] ∧ Box ((wh7.setCell ⟨w.heap.size + 1 + 1, 0, none⟩ (.int .i64 a)).setCell ⟨w.heap.size + 1 + 1, 1, none⟩ (.int .i64 b)) (w.heap.size + 1 + 1) 74 #[.int .i64 a, .int .i64 b]) := ⟨((MA8.out.1.setCell (Nat.le_add_right _ 2) _).setCell (Nat.le_add_right _ 2) _), ((MA8.out.2.1.other (box_ne MA8.out.2.1 MA8.out.2.2.2 (by decide)) _).other (box_ne MA8.out.2.1 MA8.out.2.2.2 (by decide)) _), ((MA8.out.2.2.1.other HNE.out _).other HNE.out _), by have h9 := ((MA8.out.2.2.2.set 0 (.int .i64 a)).set 1 (.int .i64 b)); exact h9⟩
  clear MA8
  refine rl 7 fun K hK => ?_
  go_simp
  refine hK.out _ _ ?_ (fun hHeld => ?_)
  · exact ⟨MA9.out.2.1.cell 0, MA9.out.2.1.cell 1, MA9.out.2.2.1.cell 0, MA9.out.2.2.1.cell 1⟩
  clear hK K
  refine tk 8 ?_
  refine wpAnyH_done (by kernel_rfl) ?_ _
  clear z0 z1 zf0 zf1 hHeld
  generalize ((wh7.setCell ⟨w.heap.size + 1 + 1, 0, none⟩ (.int .i64 a)).setCell ⟨w.heap.size + 1 + 1, 1, none⟩ (.int .i64 b)) = W10 at MA9 ⊢
  have a0 : W10.cell? ⟨w.heap.size, 0, none⟩ = some (.pointer (some ⟨bt, 0, none⟩)) := MA9.out.2.1.cell 0
  have a1 : W10.cell? ⟨w.heap.size, 1, none⟩ = some (.slice la v.m lc) := MA9.out.2.1.cell 1
  have b0 : W10.cell? ⟨w.heap.size + 1, 0, none⟩ = some (.int .i64 (p : Int)) := MA9.out.2.2.1.cell 0
  have b1 : W10.cell? ⟨w.heap.size + 1, 1, none⟩ = some (.int .i64 wy) := MA9.out.2.2.1.cell 1
  have c0 : W10.cell? ⟨w.heap.size + 1 + 1, 0, none⟩ = some (.int .i64 a) := MA9.out.2.2.2.cell 0
  have c1 : W10.cell? ⟨w.heap.size + 1 + 1, 1, none⟩ = some (.int .i64 b) := MA9.out.2.2.2.cell 1
  go_wp2_with fail
  clear a0 a1 b0 b1 c0 c1
  refine (turnedAny a b W10).mono ?_
  rintro e w5 ⟨y, rfl, hy, hb⟩
  have HYW : Hid (b = 1 ∨ b = -1 → y = -b) := hy
  clear hy
  have MA11 : Hid (Below w.heap.size w w5 ∧ Box w5 (w.heap.size) 87 #[.pointer (some ⟨bt, 0, none⟩), .slice la v.m lc] ∧ Box w5 (w.heap.size + 1) 74 #[.int .i64 (p : Int), .int .i64 wy] ∧ Box w5 (w.heap.size + 1 + 1) 74 #[.int .i64 a, .int .i64 b]) := ⟨MA9.out.1.trans (hb.mono MA9.out.1.size), MA9.out.2.1.mono hb (Nat.le_refl _), MA9.out.2.2.1.mono hb (Nat.le_refl _), MA9.out.2.2.2.mono hb (Nat.le_refl _)⟩
  clear hb MA9
  have z0 : w5.cell? ⟨w.heap.size + 1 + 1, 0, none⟩ = some (.int .i64 a) := MA11.out.2.2.2.cell 0
  have z1 : w5.cell? ⟨w.heap.size + 1 + 1, 1, none⟩ = some (.int .i64 b) := MA11.out.2.2.2.cell 1
  have zf0 := MA11.out.2.2.2.free 0
  have zf1 := MA11.out.2.2.2.free 1
  have MA12 : Hid (Below w.heap.size w ((w5.setCell ⟨w.heap.size + 1 + 1, 0, none⟩ (.int .i64 a)).setCell ⟨w.heap.size + 1 + 1, 1, none⟩ (.int .i64 y)) ∧ Box ((w5.setCell ⟨w.heap.size + 1 + 1, 0, none⟩ (.int .i64 a)).setCell ⟨w.heap.size + 1 + 1, 1, none⟩ (.int .i64 y)) (w.heap.size) 87 #[.pointer (some ⟨bt, 0, none⟩), .slice la v.m lc] ∧ Box ((w5.setCell ⟨w.heap.size + 1 + 1, 0, none⟩ (.int .i64 a)).setCell ⟨w.heap.size + 1 + 1, 1, none⟩ (.int .i64 y)) (w.heap.size + 1) 74 #[.int .i64 (p : Int), .int .i64 wy] ∧ Box ((w5.setCell ⟨w.heap.size + 1 + 1, 0, none⟩ (.int .i64 a)).setCell ⟨w.heap.size + 1 + 1, 1, none⟩ (.int .i64 y)) (w.heap.size + 1 + 1) 74 #[.int .i64 a, .int .i64 y]) := ⟨((MA11.out.1.setCell (Nat.le_add_right _ 2) _).setCell (Nat.le_add_right _ 2) _), ((MA11.out.2.1.other (box_ne MA11.out.2.1 MA11.out.2.2.2 (by decide)) _).other (box_ne MA11.out.2.1 MA11.out.2.2.2 (by decide)) _), ((MA11.out.2.2.1.other HNE.out _).other HNE.out _), by have h9 := ((MA11.out.2.2.2.set 0 (.int .i64 a)).set 1 (.int .i64 y)); exact h9⟩
  clear MA11
  go_wp2_with fail
  clear z0 z1 zf0 zf1
  generalize ((w5.setCell ⟨w.heap.size + 1 + 1, 0, none⟩ (.int .i64 a)).setCell ⟨w.heap.size + 1 + 1, 1, none⟩ (.int .i64 y)) = W9 at MA12 ⊢
  have z0 : W9.cell? ⟨w.heap.size + 1 + 1, 0, none⟩ = some (.int .i64 a) := MA12.out.2.2.2.cell 0
  have z1 : W9.cell? ⟨w.heap.size + 1 + 1, 1, none⟩ = some (.int .i64 y) := MA12.out.2.2.2.cell 1
  exact bodyPost_ret (v := .tuple #[.agg #[.int .i64 a, .int .i64 y], .int .i64 cd]) (by simp [results, Tryz.results46, go_sem, z0, z1]) rfl (cf_mk HCD.out HAB.out HYW.out MA12.out.1)
/-- the place just within a piece -/
def enA (v : Nv) (q : Nat) (sd : Int) : Int := if sd = 0 then 0 else (v.P q).ln
def enW (sd : Int) : Int := if sd = 0 then 1 else -1
set_option maxRecDepth 100000 in
set_option maxHeartbeats 16000000 in
theorem enter38 {v : Nv} (ok : v.Ok) (pa : Option Addr) (pc : Nat) (ja : Option Addr) (jc : Nat) (q : Nat) (sd : Int) (w : World) (hq : q < v.n) (hP : PsAt 0 w pa v.n v.P) :
    Calls Tryz.prog 38 #[.agg #[.slice pa v.n pc, .slice ja v.m jc], .agg #[.int .i64 (q : Int), .int .i64 sd]] w fun e w' => e = .returned (.agg #[.int .i64 (q : Int), .int .i64 (enA v q sd), .int .i64 (enW sd)]) ∧ Below w.heap.size w w' := by
  obtain ⟨pb, po, rfl, _, hb, hc⟩ := hP (by omega)
  have HC1 : Hid (pb < w.heap.size ∧ w.cell? ⟨pb, po + q * 4 + 1, none⟩ = some (.int .i64 (v.P q).ln)) := ⟨hb, (hc q hq).2.1⟩
  have hpi : (q : Int) < (v.n : Int) := by omega
  have hp0 : (0 : Int) ≤ (q : Int) := by omega
  have hn := ok.n1
  have S0 : Hid (Below w.heap.size w (((w.alloc (.cells #[.slice (some ⟨pb, po, none⟩) v.n pc, .slice ja v.m jc] 40)).alloc (.cells #[.int .i64 (q : Int), .int .i64 sd] 76)).alloc (.cells #[.int .i64 0, .int .i64 0, .int .i64 0] 30)) ∧ Box (((w.alloc (.cells #[.slice (some ⟨pb, po, none⟩) v.n pc, .slice ja v.m jc] 40)).alloc (.cells #[.int .i64 (q : Int), .int .i64 sd] 76)).alloc (.cells #[.int .i64 0, .int .i64 0, .int .i64 0] 30)) (w.heap.size) 40 #[.slice (some ⟨pb, po, none⟩) v.n pc, .slice ja v.m jc] ∧ Box (((w.alloc (.cells #[.slice (some ⟨pb, po, none⟩) v.n pc, .slice ja v.m jc] 40)).alloc (.cells #[.int .i64 (q : Int), .int .i64 sd] 76)).alloc (.cells #[.int .i64 0, .int .i64 0, .int .i64 0] 30)) (w.heap.size + 1) 76 #[.int .i64 (q : Int), .int .i64 sd] ∧ Box (((w.alloc (.cells #[.slice (some ⟨pb, po, none⟩) v.n pc, .slice ja v.m jc] 40)).alloc (.cells #[.int .i64 (q : Int), .int .i64 sd] 76)).alloc (.cells #[.int .i64 0, .int .i64 0, .int .i64 0] 30)) (w.heap.size + 1 + 1) 30 #[.int .i64 0, .int .i64 0, .int .i64 0]) := ⟨((Below.refl _ _).alloc (Nat.le_refl _) _ |>.alloc (by simp) _ |>.alloc (by simp; omega) _), (((Box.new w 40 #[.slice (some ⟨pb, po, none⟩) v.n pc, .slice ja v.m jc]).alloc (.cells #[.int .i64 (q : Int), .int .i64 sd] 76)).alloc (.cells #[.int .i64 0, .int .i64 0, .int .i64 0] 30)), by have := ((Box.new (w.alloc (.cells #[.slice (some ⟨pb, po, none⟩) v.n pc, .slice ja v.m jc] 40)) 76 #[.int .i64 (q : Int), .int .i64 sd]).alloc (.cells #[.int .i64 0, .int .i64 0, .int .i64 0] 30)); simpa using this, by have := (Box.new ((w.alloc (.cells #[.slice (some ⟨pb, po, none⟩) v.n pc, .slice ja v.m jc] 40)).alloc (.cells #[.int .i64 (q : Int), .int .i64 sd] 76)) 30 #[.int .i64 0, .int .i64 0, .int .i64 0]); simpa using this⟩
  clear hc hP ok hb
  by_cases hsd : sd = 0
  · subst hsd
    go_enter Tryz.func38, Tryz.ntmps38
    go_upto_region 1 with fail
    generalize (((w.alloc (.cells #[.slice (some ⟨pb, po, none⟩) v.n pc, .slice ja v.m jc] 40)).alloc (.cells #[.int .i64 (q : Int), .int .i64 0] 76)).alloc (.cells #[.int .i64 0, .int .i64 0, .int .i64 0] 30)) = V0 at S0 ⊢
    have a0 : V0.cell? ⟨w.heap.size, 0, none⟩ = some (.slice (some ⟨pb, po, none⟩) v.n pc) := S0.out.2.1.cell 0
    have a1 : V0.cell? ⟨w.heap.size, 1, none⟩ = some (.slice ja v.m jc) := S0.out.2.1.cell 1
    have b0 : V0.cell? ⟨w.heap.size + 1, 0, none⟩ = some (.int .i64 (q : Int)) := S0.out.2.2.1.cell 0
    have b1 : V0.cell? ⟨w.heap.size + 1, 1, none⟩ = some (.int .i64 0) := S0.out.2.2.1.cell 1
    have z0 : V0.cell? ⟨w.heap.size + 1 + 1, 0, none⟩ = some (.int .i64 0) := S0.out.2.2.2.cell 0
    have z1 : V0.cell? ⟨w.heap.size + 1 + 1, 1, none⟩ = some (.int .i64 0) := S0.out.2.2.2.cell 1
    have z2 : V0.cell? ⟨w.heap.size + 1 + 1, 2, none⟩ = some (.int .i64 0) := S0.out.2.2.2.cell 2
    have zf0 := S0.out.2.2.2.free 0
    have zf1 := S0.out.2.2.2.free 1
    have zf2 := S0.out.2.2.2.free 2
    have MA13 : Hid (Below w.heap.size w (((V0.setCell ⟨w.heap.size + 1 + 1, 0, none⟩ (.int .i64 (q : Int))).setCell ⟨w.heap.size + 1 + 1, 1, none⟩ (.int .i64 0)).setCell ⟨w.heap.size + 1 + 1, 2, none⟩ (.int .i64 1)) ∧ Box (((V0.setCell ⟨w.heap.size + 1 + 1, 0, none⟩ (.int .i64 (q : Int))).setCell ⟨w.heap.size + 1 + 1, 1, none⟩ (.int .i64 0)).setCell ⟨w.heap.size + 1 + 1, 2, none⟩ (.int .i64 1)) (w.heap.size) 40 #[.slice (some ⟨pb, po, none⟩) v.n pc, .slice ja v.m jc] ∧ Box (((V0.setCell ⟨w.heap.size + 1 + 1, 0, none⟩ (.int .i64 (q : Int))).setCell ⟨w.heap.size + 1 + 1, 1, none⟩ (.int .i64 0)).setCell ⟨w.heap.size + 1 + 1, 2, none⟩ (.int .i64 1)) (w.heap.size + 1) 76 #[.int .i64 (q : Int), .int .i64 0] ∧ Box (((V0.setCell ⟨w.heap.size + 1 + 1, 0, none⟩ (.int .i64 (q : Int))).setCell ⟨w.heap.size + 1 + 1, 1, none⟩ (.int .i64 0)).setCell ⟨w.heap.size + 1 + 1, 2, none⟩ (.int .i64 1)) (w.heap.size + 1 + 1) 30 #[.int .i64 (q : Int), .int .i64 0, .int .i64 1]) := ⟨(((S0.out.1.setCell (Nat.le_add_right _ 2) _).setCell (Nat.le_add_right _ 2) _).setCell (Nat.le_add_right _ 2) _), (((S0.out.2.1.other (box_ne S0.out.2.1 S0.out.2.2.2 (by decide)) _).other (box_ne S0.out.2.1 S0.out.2.2.2 (by decide)) _).other (box_ne S0.out.2.1 S0.out.2.2.2 (by decide)) _), (((S0.out.2.2.1.other (box_ne S0.out.2.2.1 S0.out.2.2.2 (by decide)) _).other (box_ne S0.out.2.2.1 S0.out.2.2.2 (by decide)) _).other (box_ne S0.out.2.2.1 S0.out.2.2.2 (by decide)) _), by have h9 := (((S0.out.2.2.2.set 0 (.int .i64 (q : Int))).set 1 (.int .i64 0)).set 2 (.int .i64 1)); exact h9⟩
    clear S0
    go_wp2_with fail
    clear a0 a1 b0 b1 z0 z1 z2 zf0 zf1 zf2
    generalize (((V0.setCell ⟨w.heap.size + 1 + 1, 0, none⟩ (.int .i64 (q : Int))).setCell ⟨w.heap.size + 1 + 1, 1, none⟩ (.int .i64 0)).setCell ⟨w.heap.size + 1 + 1, 2, none⟩ (.int .i64 1)) = W9 at MA13 ⊢
    have z0 : W9.cell? ⟨w.heap.size + 1 + 1, 0, none⟩ = some (.int .i64 (q : Int)) := MA13.out.2.2.2.cell 0
    have z1 : W9.cell? ⟨w.heap.size + 1 + 1, 1, none⟩ = some (.int .i64 0) := MA13.out.2.2.2.cell 1
    have z2 : W9.cell? ⟨w.heap.size + 1 + 1, 2, none⟩ = some (.int .i64 1) := MA13.out.2.2.2.cell 2
    exact bodyPost_ret (v := .agg #[.int .i64 (q : Int), .int .i64 0, .int .i64 1]) (by simp [results, Tryz.results38, go_sem, z0, z1, z2]) rfl (⟨rfl, MA13.out.1⟩)
  · have HV : Hid (enA v q sd = (v.P q).ln ∧ enW sd = -1) := ⟨if_neg hsd, if_neg hsd⟩
    have hsd' : (sd == 0) = false := by simpa using hsd
    rw [HV.out.1, HV.out.2]
    go_enter Tryz.func38, Tryz.ntmps38
    go_upto_region 1 with fail
    generalize (((w.alloc (.cells #[.slice (some ⟨pb, po, none⟩) v.n pc, .slice ja v.m jc] 40)).alloc (.cells #[.int .i64 (q : Int), .int .i64 sd] 76)).alloc (.cells #[.int .i64 0, .int .i64 0, .int .i64 0] 30)) = V0 at S0 ⊢
    have c1 : V0.cell? ⟨pb, po + q * 4 + 1, none⟩ = some (.int .i64 (v.P q).ln) := cell_keep S0.out.1 HC1.out.1 HC1.out.2
    have a0 : V0.cell? ⟨w.heap.size, 0, none⟩ = some (.slice (some ⟨pb, po, none⟩) v.n pc) := S0.out.2.1.cell 0
    have a1 : V0.cell? ⟨w.heap.size, 1, none⟩ = some (.slice ja v.m jc) := S0.out.2.1.cell 1
    have b0 : V0.cell? ⟨w.heap.size + 1, 0, none⟩ = some (.int .i64 (q : Int)) := S0.out.2.2.1.cell 0
    have b1 : V0.cell? ⟨w.heap.size + 1, 1, none⟩ = some (.int .i64 sd) := S0.out.2.2.1.cell 1
    go_wp2_with fail
    refine wp_region_held_drew (S := (fun wx : World => wx.cell? ⟨w.heap.size, 0, none⟩ = some (.slice (some ⟨pb, po, none⟩) v.n pc) ∧ wx.cell? ⟨w.heap.size, 1, none⟩ = some (.slice ja v.m jc) ∧ wx.cell? ⟨w.heap.size + 1, 0, none⟩ = some (.int .i64 (q : Int)) ∧ wx.cell? ⟨w.heap.size + 1, 1, none⟩ = some (.int .i64 sd) ∧ wx.cell? ⟨pb, po + q * 4 + 1, none⟩ = some (.int .i64 (v.P q).ln))) (by kernel_rfl) ?_ (fun hHeld => ?_)
    · exact ⟨a0, a1, b0, b1, c1⟩
    have MD14 : Hid (Below w.heap.size w V0.drew ∧ Box V0.drew (w.heap.size) 40 #[.slice (some ⟨pb, po, none⟩) v.n pc, .slice ja v.m jc] ∧ Box V0.drew (w.heap.size + 1) 76 #[.int .i64 (q : Int), .int .i64 sd] ∧ Box V0.drew (w.heap.size + 1 + 1) 30 #[.int .i64 0, .int .i64 0, .int .i64 0]) := ⟨S0.out.1.drew, S0.out.2.1.drew, S0.out.2.2.1.drew, S0.out.2.2.2.drew⟩
    clear a0 a1 b0 b1 c1 S0
    generalize V0.drew = VD at MD14 hHeld ⊢
    refine tk 0 ?_
    refine tk 1 ?_
    refine tk 2 ?_
    refine tk 3 ?_
    refine tk 4 ?_
    refine tk 5 ?_
    refine tk 6 ?_
    refine tk 7 ?_
    refine tk 8 ?_
    refine tk 9 ?_
    have z0 : VD.cell? ⟨w.heap.size + 1 + 1, 0, none⟩ = some (.int .i64 0) := MD14.out.2.2.2.cell 0
    have z1 : VD.cell? ⟨w.heap.size + 1 + 1, 1, none⟩ = some (.int .i64 0) := MD14.out.2.2.2.cell 1
    have z2 : VD.cell? ⟨w.heap.size + 1 + 1, 2, none⟩ = some (.int .i64 0) := MD14.out.2.2.2.cell 2
    have zf0 := MD14.out.2.2.2.free 0
    have zf1 := MD14.out.2.2.2.free 1
    have zf2 := MD14.out.2.2.2.free 2
    have MA15 : Hid (Below w.heap.size w (((VD.setCell ⟨w.heap.size + 1 + 1, 0, none⟩ (.int .i64 (q : Int))).setCell ⟨w.heap.size + 1 + 1, 1, none⟩ (.int .i64 (v.P q).ln)).setCell ⟨w.heap.size + 1 + 1, 2, none⟩ (.int .i64 (-1))) ∧ Box (((VD.setCell ⟨w.heap.size + 1 + 1, 0, none⟩ (.int .i64 (q : Int))).setCell ⟨w.heap.size + 1 + 1, 1, none⟩ (.int .i64 (v.P q).ln)).setCell ⟨w.heap.size + 1 + 1, 2, none⟩ (.int .i64 (-1))) (w.heap.size) 40 #[.slice (some ⟨pb, po, none⟩) v.n pc, .slice ja v.m jc] ∧ Box (((VD.setCell ⟨w.heap.size + 1 + 1, 0, none⟩ (.int .i64 (q : Int))).setCell ⟨w.heap.size + 1 + 1, 1, none⟩ (.int .i64 (v.P q).ln)).setCell ⟨w.heap.size + 1 + 1, 2, none⟩ (.int .i64 (-1))) (w.heap.size + 1) 76 #[.int .i64 (q : Int), .int .i64 sd] ∧ Box (((VD.setCell ⟨w.heap.size + 1 + 1, 0, none⟩ (.int .i64 (q : Int))).setCell ⟨w.heap.size + 1 + 1, 1, none⟩ (.int .i64 (v.P q).ln)).setCell ⟨w.heap.size + 1 + 1, 2, none⟩ (.int .i64 (-1))) (w.heap.size + 1 + 1) 30 #[.int .i64 (q : Int), .int .i64 (v.P q).ln, .int .i64 (-1)]) := ⟨(((MD14.out.1.setCell (Nat.le_add_right _ 2) _).setCell (Nat.le_add_right _ 2) _).setCell (Nat.le_add_right _ 2) _), (((MD14.out.2.1.other (box_ne MD14.out.2.1 MD14.out.2.2.2 (by decide)) _).other (box_ne MD14.out.2.1 MD14.out.2.2.2 (by decide)) _).other (box_ne MD14.out.2.1 MD14.out.2.2.2 (by decide)) _), (((MD14.out.2.2.1.other (box_ne MD14.out.2.2.1 MD14.out.2.2.2 (by decide)) _).other (box_ne MD14.out.2.2.1 MD14.out.2.2.2 (by decide)) _).other (box_ne MD14.out.2.2.1 MD14.out.2.2.2 (by decide)) _), by have h9 := (((MD14.out.2.2.2.set 0 (.int .i64 (q : Int))).set 1 (.int .i64 (v.P q).ln)).set 2 (.int .i64 (-1))); exact h9⟩
    have HH : Hid (VD.cell? ⟨pb, po + q * 4 + 1, none⟩ = some (.int .i64 (v.P q).ln)) := hHeld.2.2.2.2
    clear hHeld
    refine rl 10 fun K hK => ?_
    go_simp
    refine hK.out _ _ ?_ (fun hHeld => ?_)
    · exact ⟨MA15.out.2.1.cell 0, MA15.out.2.1.cell 1, MA15.out.2.2.1.cell 0, MA15.out.2.2.1.cell 1, cell_keep MA15.out.1 HC1.out.1 HC1.out.2⟩
    clear hK K z0 z1 z2 zf0 zf1 zf2 hHeld MD14
    refine wpAnyH_done (by kernel_rfl) ?_ _
    generalize (((VD.setCell ⟨w.heap.size + 1 + 1, 0, none⟩ (.int .i64 (q : Int))).setCell ⟨w.heap.size + 1 + 1, 1, none⟩ (.int .i64 (v.P q).ln)).setCell ⟨w.heap.size + 1 + 1, 2, none⟩ (.int .i64 (-1))) = W9 at MA15 ⊢
    have z0 : W9.cell? ⟨w.heap.size + 1 + 1, 0, none⟩ = some (.int .i64 (q : Int)) := MA15.out.2.2.2.cell 0
    have z1 : W9.cell? ⟨w.heap.size + 1 + 1, 1, none⟩ = some (.int .i64 (v.P q).ln) := MA15.out.2.2.2.cell 1
    have z2 : W9.cell? ⟨w.heap.size + 1 + 1, 2, none⟩ = some (.int .i64 (-1)) := MA15.out.2.2.2.cell 2
    go_wp2_with fail
    exact bodyPost_ret (v := .agg #[.int .i64 (q : Int), .int .i64 (v.P q).ln, .int .i64 (-1)]) (by simp [results, Tryz.results38, go_sem, z0, z1, z2]) rfl ⟨rfl, MA15.out.1⟩

end Go.Proofs.YtjhmaofjmalglaaGreat
