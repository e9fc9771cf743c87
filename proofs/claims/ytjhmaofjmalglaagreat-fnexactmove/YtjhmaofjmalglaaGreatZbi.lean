import Derived.Test.YtjhmaofjmalglaaGreatZbd
import Derived.Test.YtjhmaofjmalglaaGreatZbh
namespace Go.Proofs.YtjhmaofjmalglaaGreat
open Go.RowKit Go.Lib
def NdR (w : World) (h : Nat → Int) (lg : Int) (nb : Nat) (e : Ending) (w' : World) : Prop := ∃ z : Nat, e = .returned (.int .i64 (z : Int)) ∧ z ≤ nb + 1 ∧ (∀ q, q < z → q ≤ nb → h q < lg) ∧ (z ≤ nb → lg ≤ h z) ∧ Below w.heap.size w w'
set_option maxRecDepth 100000 in
set_option maxHeartbeats 16000000 in
theorem needs45 {v : Nv} (ok : v.Ok) {bt sb : Nat} {pa : Option Addr} {pc : Nat} {ja : Option Addr} {jc : Nat} (fp fa fw lg : Int) (nb : Nat) (B : Nat → Nat → Int) (ba : Option Addr) (bk : Nat) (w : World) (h : TkAt w bt sb v pa pc ja jc) (hsp : spotB v fp fa fw = true) (hlg : 1 ≤ lg ∧ lg ≤ 100000) (hnb : nb ≤ 200) (hB : NsAt 2 0 w ba nb B) (hst : ∀ i, i < nb → stepB v (B i 0) (B i 1) = true) :
  Calls Tryz.prog 45 #[.pointer (some ⟨bt, 0, none⟩), .agg #[.int .i64 fp, .int .i64 fa, .int .i64 fw, .int .i64 lg, .slice ba nb bk]] w fun e w' => NdR w (hvF v fp fa fw B) lg nb e w' := by
 have H : Hid (v.Ok ∧ TkAt w bt sb v pa pc ja jc ∧ NsAt 2 0 w ba nb B ∧ (∀ i, i < nb → stepB v (B i 0) (B i 1) = true) ∧ spotB v fp fa fw = true) := ⟨ok, h, hB, hst, hsp⟩
 have hn := ok.n1
 obtain ⟨fq, rfl, hfq, hfw, hfa⟩ : ∃ q : Nat, fp = (q : Int) ∧ q < v.n ∧ (fw = 1 ∨ fw = -1) ∧ (0 ≤ fa ∧ fa ≤ (v.P q).ln) := spot_nat hsp
 have hl0 := ok.ln fq hfq
 have hfa : 0 ≤ fa ∧ fa ≤ 10000000 := by omega
 have S0 : Hid (Below w.heap.size w (w.alloc (.cells #[.int .i64 (fq : Int), .int .i64 fa, .int .i64 fw, .int .i64 lg, .slice ba nb bk] 90)) ∧ Box (w.alloc (.cells #[.int .i64 (fq : Int), .int .i64 fa, .int .i64 fw, .int .i64 lg, .slice ba nb bk] 90)) w.heap.size 90 #[.int .i64 (fq : Int), .int .i64 fa, .int .i64 fw, .int .i64 lg, .slice ba nb bk]) := ⟨bel1 _ _, Box.new _ _ _⟩
 have HF0 : Hid (farI (v.P fq).ln fa fw = hvF v (fq : Int) fa fw B 0) := by show _ = _; rw [hvF, Int.toNat_natCast]
 have hf0 : 0 ≤ farI (v.P fq).ln fa fw ∧ farI (v.P fq).ln fa fw ≤ 10000000 := by have := hv_bnd (B := B) ok hsp 0 (fun i hi => absurd hi (Nat.not_lt_zero _)); rw [← HF0.out] at this; omega
 have hw0 : IntKind.i64.wrap (lg - farI (v.P fq).ln fa fw) = lg - farI (v.P fq).ln fa fw := by rw [IntKind.wrap_i64]; omega
 clear ok h hB hst hsp
 go_enter Tryz.func45, Tryz.ntmps45
 go_upto_region 1 with fail
 generalize (w.alloc (.cells #[.int .i64 (fq : Int), .int .i64 fa, .int .i64 fw, .int .i64 lg, .slice ba nb bk] 90)) = V0 at S0 ⊢
 have t0 := S0.out.2.cel 0
 have t1 := S0.out.2.cel 1
 have t2 := S0.out.2.cel 2
 have t3 := S0.out.2.cel 3
 have t4 := S0.out.2.cel 4
 have MD : Hid (Below w.heap.size w V0.drew ∧ Box V0.drew w.heap.size 90 #[.int .i64 (fq : Int), .int .i64 fa, .int .i64 fw, .int .i64 lg, .slice ba nb bk]) := ⟨S0.out.1.drew, S0.out.2.drew⟩
 go_wp2_with fail
 refine wp_region_held_drew (S := (fun wx : World => wx.cell? ⟨w.heap.size, 0, none⟩ = some (.int .i64 (fq : Int)) ∧ wx.cell? ⟨w.heap.size, 1, none⟩ = some (.int .i64 fa) ∧ wx.cell? ⟨w.heap.size, 2, none⟩ = some (.int .i64 fw) ∧ wx.cell? ⟨w.heap.size, 3, none⟩ = some (.int .i64 lg) ∧ wx.cell? ⟨w.heap.size, 4, none⟩ = some (.slice ba nb bk))) (by kernel_rfl) ?_ (fun hHeld => ?_)
 ·
  exact ⟨t0, t1, t2, t3, t4⟩
 refine tk 0 ?_
 refine tk 1 ?_
 refine tk 2 ?_
 refine tk 3 ?_
 refine tk 4 ?_
 refine tk 6 ?_
 refine tk 7 ?_
 refine tk 8 ?_
 refine rl 5 fun K hK => ?_
 go_simp
 refine (step79 (fq : Int) fa fw _).mono ?_
 rintro e w1 ⟨rfl, hb1⟩
 have M1 : Hid (Below w.heap.size w w1 ∧ Box w1 w.heap.size 90 #[.int .i64 (fq : Int), .int .i64 fa, .int .i64 fw, .int .i64 lg, .slice ba nb bk]) := ⟨MD.out.1.trans (hb1.mono MD.out.1.size), MD.out.2.mono hb1 nr⟩
 clear hb1
 go_wp2_with fail
 refine hK.out _ _ ?_ (fun hHeld5 => ?_)
 ·
  exact ⟨M1.out.2.cell 0, M1.out.2.cell 1, M1.out.2.cell 2, M1.out.2.cell 3, M1.out.2.cell 4⟩
 clear hK K
 refine rl 9 fun K hK => ?_
 go_simp
 refine (along98 H.out.1 fq fw fa w1 (H.out.2.1.mono M1.out.1 nr) hfq hfa).mono ?_
 rintro e w2 ⟨rfl, hb2⟩
 have M2 : Hid (Below w.heap.size w w2 ∧ Box w2 w.heap.size 90 #[.int .i64 (fq : Int), .int .i64 fa, .int .i64 fw, .int .i64 lg, .slice ba nb bk]) := ⟨M1.out.1.trans (hb2.mono M1.out.1.size), M1.out.2.mono hb2 nr⟩
 clear hb2
 go_wp2_with fail
 refine hK.out _ _ ?_ (fun hHeld9 => ?_)
 ·
  exact ⟨M2.out.2.cell 0, M2.out.2.cell 1, M2.out.2.cell 2, M2.out.2.cell 3, M2.out.2.cell 4⟩
 clear hK K
 refine tk 10 ?_
 refine tk 11 ?_
 refine wpAnyH_done (by kernel_rfl) ?_ _
 clear t0 t1 t2 t3 t4 S0 MD M1
 have t4 := M2.out.2.cel 4
 go_wp2_with fail
 clear t4
 go_loopw [5, 22] (fun u c wr => ∃ (k : Nat) (x : Int), k ≤ nb ∧ c = .int .i64 k ∧ u = .int .i64 x ∧ Hid (x = lg - hvF v (fq : Int) fa fw B k) ∧ Hid (∀ q, q < k → hvF v (fq : Int) fa fw B q < lg) ∧ Hid (Below w.heap.size w wr ∧ Box wr w.heap.size 90 #[.int .i64 (fq : Int), .int .i64 fa, .int .i64 fw, .int .i64 lg, .slice ba nb bk])) (fun _ c _ => nb - (intOf c).toNat)
 case atStart => exact ⟨0, _, Nat.zero_le _, rfl, rfl, by show _ = _; rw [← HF0.out, ← hw0], fun q hq => absurd hq (Nat.not_lt_zero _), M2⟩
 case round =>
  clear M2
  obtain ⟨k, x, hk, rfl, rfl, HX, HK, T⟩ := hrel
  have HBD : Hid (-3000000000 ≤ x ∧ x ≤ 100000) := by
   have h1 := hv_bnd H.out.1 H.out.2.2.2.2 k fun i hi => H.out.2.2.2.1 i (by omega)
   have := HX.out
   show _ ∧ _
   omega
  by_cases hlt : k < nb
  ·
   obtain ⟨bb, bo, hbe, _, hbl, hbc⟩ := H.out.2.2.1 (by omega)
   obtain ⟨sp, HSP, hspn, _⟩ : ∃ q : Nat, Hid (B k 0 = (q : Int)) ∧ q < v.n ∧ (B k 1 = 1 ∨ B k 1 = -1) := step_nat (H.out.2.2.2.1 k hlt)
   have hk0 : (0 : Int) ≤ (k : Int) := by omega
   have hkn : (k : Int) < (nb : Int) := by omega
   have d0 : wr.cell? ⟨bb, bo + k * 2, none⟩ = some (.int .i64 (B k 0)) := cell_keep T.out.1 hbl (hbc k hlt 0 (by omega))
   have d1 : wr.cell? ⟨bb, bo + k * 2 + 1, none⟩ = some (.int .i64 (B k 1)) := cell_keep T.out.1 hbl (hbc k hlt 1 (by omega))
   rw [HSP.out] at d0
   have hbs : ba = some ⟨bb, bo, none⟩ := hbe
   subst hbs
   have hln := H.out.1.ln sp hspn
   have hwx : IntKind.i64.wrap (x - (v.P sp).ln) = x - (v.P sp).ln := by have := HBD.out; rw [IntKind.wrap_i64]; omega
   have HNX : Hid (x - (v.P sp).ln = lg - hvF v (fq : Int) fa fw B (k + 1)) := by show _ = _; rw [hvF, HX.out, HSP.out, Int.toNat_natCast]; omega
   have T1 : Hid ((Below w.heap.size w (wr.alloc (.cells #[.int .i64 (sp : Int), .int .i64 (B k 1)] 74)) ∧ Box (wr.alloc (.cells #[.int .i64 (sp : Int), .int .i64 (B k 1)] 74)) w.heap.size 90 #[.int .i64 (fq : Int), .int .i64 fa, .int .i64 fw, .int .i64 lg, .slice (some ⟨bb, bo, none⟩) nb bk]) ∧ Box (wr.alloc (.cells #[.int .i64 (sp : Int), .int .i64 (B k 1)] 74)) wr.heap.size 74 #[.int .i64 (sp : Int), .int .i64 (B k 1)]) := ⟨⟨T.out.1.alloc T.out.1.size _, T.out.2.alloc _⟩, Box.new _ _ _⟩
   clear hbc hbl T
   by_cases hx : x ≤ 0
   ·
    have HX0 : Hid (lg ≤ hvF v (fq : Int) fa fw B k) := by have := HX.out; show _ ≤ _; omega
    have HE : Hid (Below w.heap.size w (wr.alloc (.cells #[.int .i64 (sp : Int), .int .i64 (B k 1)] 74))) := T1.out.1.1
    clear T1
    go_wp2_with fail
    go_ret
    exact ⟨k, rfl, by omega, fun q hq _ => HK.out q hq, fun _ => HX0.out, HE.out⟩
   ·
    go_upto_region 7 with fail
    generalize (wr.alloc (.cells #[.int .i64 (sp : Int), .int .i64 (B k 1)] 74)) = V5 at T1 ⊢
    generalize wr.heap.size = sq at T1 ⊢
    have s0 := T1.out.2.cel 0
    have s1 := T1.out.2.cel 1
    go_wp2_with fail
    refine (long99 H.out.1 sp (B k 1) V5 (H.out.2.1.mono T1.out.1.1 nr) hspn).mono ?_
    rintro e w6 ⟨rfl, hb6⟩
    have HK2 : Hid (∀ q, q < k + 1 → hvF v (fq : Int) fa fw B q < lg) := fun q hq => by
     by_cases c : q = k
     ·
      subst c
      have := HX.out
      omega
     ·
      exact HK.out q (by omega)
    have T8 : Hid (Below w.heap.size w w6 ∧ Box w6 w.heap.size 90 #[.int .i64 (fq : Int), .int .i64 fa, .int .i64 fw, .int .i64 lg, .slice (some ⟨bb, bo, none⟩) nb bk]) := ⟨T1.out.1.1.trans (hb6.mono T1.out.1.1.size), T1.out.1.2.mono hb6 nr⟩
    clear hb6 T1 s0 s1 d0 d1
    go_wp2_with fail
    go_roundw
    case rel => exact ⟨k + 1, _, by omega, by go_num, rfl, HNX, HK2, T8⟩
    case measure => simp [intOf]; omega
  ·
   have hge : ¬ ((k : Int) < (nb : Int)) := by omega
   have hkk : k = nb := by omega
   have t4 := T.out.2.cel 4
   by_cases hx : x ≤ 0
   ·
    have HX0 : Hid (lg ≤ hvF v (fq : Int) fa fw B nb) := by have := HX.out; rw [hkk] at this; show _ ≤ _; omega
    have hx' : ¬ (0 < x) := by omega
    go_wp2_with fail
    go_ret
    exact ⟨nb, rfl, by omega, fun q hq _ => HK.out q (by omega), fun _ => HX0.out, T.out.1⟩
   ·
    have HX0 : Hid (hvF v (fq : Int) fa fw B nb < lg) := by have := HX.out; rw [hkk] at this; show _ < _; omega
    have hx' : 0 < x := by omega
    have hwn : IntKind.i64.wrap ((nb : Int) + 1) = (nb : Int) + 1 := by rw [IntKind.wrap_i64]; omega
    go_wp2_with fail
    go_ret
    exact ⟨nb + 1, rfl, by omega, fun q hq hq2 => by
     by_cases c : q = nb
     ·
      subst c; exact HX0.out
     ·
      exact HK.out q (by omega), fun h => absurd h (by omega), T.out.1⟩
theorem box_grow {W w6 : World} {o : Obj} {B : Nat} {e : TypeId} {c n q : Nat} {vo : Value} {G : Nat → Nat → Value} {T : TypeId} {xs : Array Value} (hb : Box W q T xs) (ho : VOwn B e c W vo n G) (hT : T ≠ e) (hg : (W.alloc o).grownBy w6 vo.ownBlock) : Box w6 q T xs :=
 (hb.alloc o).grown hg (fun h => (ho.alloc o).off (hb.alloc o) hT h rfl)
theorem bel_grow {M : Nat} {w W w6 : World} {o : Obj} {B : Nat} {e : TypeId} {c n : Nat} {vo : Value} {G : Nat → Nat → Value} (hb : Below M w W) (ho : VOwn B e c W vo n G) (hM : M ≤ W.heap.size) (hB : M ≤ B) (hg : (W.alloc o).grownBy w6 vo.ownBlock) : Below M w w6 :=
 (hb.alloc hM o).grown hg (Nat.le_trans hM (bel1 W o).size) (fun _ hj => Nat.le_trans hB (ho.lt hj).1)
theorem next_pc {v : Nv} (ok : v.Ok) {L : Nat → Int} {p : Nat} {wa : Int} (hp : p < v.n) (hl : ∀ i, i < v.m → lieB v.J L i = true) (h0 : (exitAt v L p wa).2 = 0) : ∃ q : Nat, (nextAt v L p wa).pc = (q : Int) ∧ q < v.n := by
 obtain ⟨g0, g1, g2⟩ : 0 ≤ (headE p wa).pc ∧ (headE p wa).pc < v.n ∧ ((headE p wa).sd = 0 ∨ (headE p wa).sd = 1) := by
  refine ⟨by show (0 : Int) ≤ (p : Int); omega, by show (p : Int) < (v.n : Int); omega, ?_⟩
  show (if wa = 1 then (1 : Int) else 0) = 0 ∨ (if wa = 1 then (1 : Int) else 0) = 1
  split
  ·
   exact Or.inr rfl
  ·
   exact Or.inl rfl
 obtain ⟨j, k, hat, hja, hjm, hkn, hEk, hk1, hk2, hk3⟩ := ok.there g0 g1 g2
 rw [exitAt, hat] at h0
 rw [nextAt, exitAt, hat]
 have h := ok.en j hjm _ (exit_lt ok hjm hkn (hl j hjm) h0)
 exact ⟨_, (Int.toNat_of_nonneg h.1).symm, by have h2 := h.2.1; have h1 := h.1; omega⟩
theorem wayOf_two (e : En) : wayOf e = 1 ∨ wayOf e = -1 := by
 unfold wayOf
 split
 ·
  exact Or.inr rfl
 ·
  exact Or.inl rfl
def enA (v : Nv) (q : Nat) (sd : Int) : Int := if sd = 0 then 0 else (v.P q).ln
def enW (sd : Int) : Int := if sd = 0 then 1 else -1
set_option maxRecDepth 100000 in
set_option maxHeartbeats 16000000 in
theorem enter38 {v : Nv} (ok : v.Ok) (pa : Option Addr) (pc : Nat) (ja : Option Addr) (jc : Nat) (q : Nat) (sd : Int) (w : World) (hq : q < v.n) (hP : PsAt 0 w pa v.n v.P) :
  Calls Tryz.prog 38 #[.agg #[.slice pa v.n pc, .slice ja v.m jc], .agg #[.int .i64 (q : Int), .int .i64 sd]] w fun e w' => e = .returned (.agg #[.int .i64 (q : Int), .int .i64 (enA v q sd), .int .i64 (enW sd)]) ∧ Below w.heap.size w w' := by
 obtain ⟨pb, po, rfl, _, hb, hc⟩ := hP (by omega)
 have HC1 : Hid (pb < w.heap.size ∧ w.cell? ⟨pb, po + q * 4 + 1, none⟩ = some (.int .i64 (v.P q).ln)) := ⟨hb, (hc q hq).2.1⟩
 have hpi : (q : Int) < (v.n : Int) := by omega
 have hp0 : (0 : Int) ≤ (q : Int) := by omega
 have hn := ok.n1
 have S0 : Hid (Below w.heap.size w (((w.alloc (.cells #[.slice (some ⟨pb, po, none⟩) v.n pc, .slice ja v.m jc] 40)).alloc (.cells #[.int .i64 (q : Int), .int .i64 sd] 76)).alloc (.cells #[.int .i64 0, .int .i64 0, .int .i64 0] 30)) ∧ Box (((w.alloc (.cells #[.slice (some ⟨pb, po, none⟩) v.n pc, .slice ja v.m jc] 40)).alloc (.cells #[.int .i64 (q : Int), .int .i64 sd] 76)).alloc (.cells #[.int .i64 0, .int .i64 0, .int .i64 0] 30)) (w.heap.size) 40 #[.slice (some ⟨pb, po, none⟩) v.n pc, .slice ja v.m jc] ∧ Box (((w.alloc (.cells #[.slice (some ⟨pb, po, none⟩) v.n pc, .slice ja v.m jc] 40)).alloc (.cells #[.int .i64 (q : Int), .int .i64 sd] 76)).alloc (.cells #[.int .i64 0, .int .i64 0, .int .i64 0] 30)) (w.heap.size + 1) 76 #[.int .i64 (q : Int), .int .i64 sd] ∧ Box (((w.alloc (.cells #[.slice (some ⟨pb, po, none⟩) v.n pc, .slice ja v.m jc] 40)).alloc (.cells #[.int .i64 (q : Int), .int .i64 sd] 76)).alloc (.cells #[.int .i64 0, .int .i64 0, .int .i64 0] 30)) (w.heap.size + 1 + 1) 30 #[.int .i64 0, .int .i64 0, .int .i64 0]) := ⟨((Below.refl _ _).alloc nr _ |>.alloc (by simp) _ |>.alloc (by simp; omega) _), (((Box.new w 40 #[.slice (some ⟨pb, po, none⟩) v.n pc, .slice ja v.m jc]).alloc (.cells #[.int .i64 (q : Int), .int .i64 sd] 76)).alloc (.cells #[.int .i64 0, .int .i64 0, .int .i64 0] 30)), by have := ((Box.new (w.alloc (.cells #[.slice (some ⟨pb, po, none⟩) v.n pc, .slice ja v.m jc] 40)) 76 #[.int .i64 (q : Int), .int .i64 sd]).alloc (.cells #[.int .i64 0, .int .i64 0, .int .i64 0] 30)); simpa using this, by have := (Box.new ((w.alloc (.cells #[.slice (some ⟨pb, po, none⟩) v.n pc, .slice ja v.m jc] 40)).alloc (.cells #[.int .i64 (q : Int), .int .i64 sd] 76)) 30 #[.int .i64 0, .int .i64 0, .int .i64 0]); simpa using this⟩
 clear hc hP ok hb
 by_cases hsd : sd = 0
 ·
  subst hsd
  go_enter Tryz.func38, Tryz.ntmps38
  go_upto_region 1 with fail
  generalize (((w.alloc (.cells #[.slice (some ⟨pb, po, none⟩) v.n pc, .slice ja v.m jc] 40)).alloc (.cells #[.int .i64 (q : Int), .int .i64 0] 76)).alloc (.cells #[.int .i64 0, .int .i64 0, .int .i64 0] 30)) = V0 at S0 ⊢
  have a0 := S0.out.2.1.cel 0
  have a1 := S0.out.2.1.cel 1
  have b0 := S0.out.2.2.1.cel 0
  have b1 := S0.out.2.2.1.cel 1
  have z0 := S0.out.2.2.2.cel 0
  have z1 := S0.out.2.2.2.cel 1
  have z2 := S0.out.2.2.2.cel 2
  have zf0 := S0.out.2.2.2.free 0
  have zf1 := S0.out.2.2.2.free 1
  have zf2 := S0.out.2.2.2.free 2
  have MA13 : Hid (Below w.heap.size w (((V0.setCell ⟨w.heap.size + 1 + 1, 0, none⟩ (.int .i64 (q : Int))).setCell ⟨w.heap.size + 1 + 1, 1, none⟩ (.int .i64 0)).setCell ⟨w.heap.size + 1 + 1, 2, none⟩ (.int .i64 1)) ∧ Box (((V0.setCell ⟨w.heap.size + 1 + 1, 0, none⟩ (.int .i64 (q : Int))).setCell ⟨w.heap.size + 1 + 1, 1, none⟩ (.int .i64 0)).setCell ⟨w.heap.size + 1 + 1, 2, none⟩ (.int .i64 1)) (w.heap.size) 40 #[.slice (some ⟨pb, po, none⟩) v.n pc, .slice ja v.m jc] ∧ Box (((V0.setCell ⟨w.heap.size + 1 + 1, 0, none⟩ (.int .i64 (q : Int))).setCell ⟨w.heap.size + 1 + 1, 1, none⟩ (.int .i64 0)).setCell ⟨w.heap.size + 1 + 1, 2, none⟩ (.int .i64 1)) (w.heap.size + 1) 76 #[.int .i64 (q : Int), .int .i64 0] ∧ Box (((V0.setCell ⟨w.heap.size + 1 + 1, 0, none⟩ (.int .i64 (q : Int))).setCell ⟨w.heap.size + 1 + 1, 1, none⟩ (.int .i64 0)).setCell ⟨w.heap.size + 1 + 1, 2, none⟩ (.int .i64 1)) (w.heap.size + 1 + 1) 30 #[.int .i64 (q : Int), .int .i64 0, .int .i64 1]) := ⟨(((S0.out.1.setCell (Nat.le_add_right _ 2) _).setCell (Nat.le_add_right _ 2) _).setCell (Nat.le_add_right _ 2) _), (((S0.out.2.1.other (box_ne S0.out.2.1 S0.out.2.2.2 (by decide)) _).other (box_ne S0.out.2.1 S0.out.2.2.2 (by decide)) _).other (box_ne S0.out.2.1 S0.out.2.2.2 (by decide)) _), (((S0.out.2.2.1.other (box_ne S0.out.2.2.1 S0.out.2.2.2 (by decide)) _).other (box_ne S0.out.2.2.1 S0.out.2.2.2 (by decide)) _).other (box_ne S0.out.2.2.1 S0.out.2.2.2 (by decide)) _), by have h9 := (((S0.out.2.2.2.set 0 (.int .i64 (q : Int))).set 1 (.int .i64 0)).set 2 (.int .i64 1)); exact h9⟩
  clear S0
  go_wp2_with fail
  clear a0 a1 b0 b1 z0 z1 z2 zf0 zf1 zf2
  generalize (((V0.setCell ⟨w.heap.size + 1 + 1, 0, none⟩ (.int .i64 (q : Int))).setCell ⟨w.heap.size + 1 + 1, 1, none⟩ (.int .i64 0)).setCell ⟨w.heap.size + 1 + 1, 2, none⟩ (.int .i64 1)) = W9 at MA13 ⊢
  have z0 := MA13.out.2.2.2.cel 0
  have z1 := MA13.out.2.2.2.cel 1
  have z2 := MA13.out.2.2.2.cel 2
  exact bodyPost_ret (v := .agg #[.int .i64 (q : Int), .int .i64 0, .int .i64 1]) (by simp [results, Tryz.results38, go_sem, z0, z1, z2]) rfl (⟨rfl, MA13.out.1⟩)
 ·
  have HV : Hid (enA v q sd = (v.P q).ln ∧ enW sd = -1) := ⟨if_neg hsd, if_neg hsd⟩
  have hsd' : (sd == 0) = false := by simpa using hsd
  rw [HV.out.1, HV.out.2]
  go_enter Tryz.func38, Tryz.ntmps38
  go_upto_region 1 with fail
  generalize (((w.alloc (.cells #[.slice (some ⟨pb, po, none⟩) v.n pc, .slice ja v.m jc] 40)).alloc (.cells #[.int .i64 (q : Int), .int .i64 sd] 76)).alloc (.cells #[.int .i64 0, .int .i64 0, .int .i64 0] 30)) = V0 at S0 ⊢
  have c1 : V0.cell? ⟨pb, po + q * 4 + 1, none⟩ = some (.int .i64 (v.P q).ln) := cell_keep S0.out.1 HC1.out.1 HC1.out.2
  have a0 := S0.out.2.1.cel 0
  have a1 := S0.out.2.1.cel 1
  have b0 := S0.out.2.2.1.cel 0
  have b1 := S0.out.2.2.1.cel 1
  go_wp2_with fail
  refine wp_region_held_drew (S := (fun wx : World => wx.cell? ⟨w.heap.size, 0, none⟩ = some (.slice (some ⟨pb, po, none⟩) v.n pc) ∧ wx.cell? ⟨w.heap.size, 1, none⟩ = some (.slice ja v.m jc) ∧ wx.cell? ⟨w.heap.size + 1, 0, none⟩ = some (.int .i64 (q : Int)) ∧ wx.cell? ⟨w.heap.size + 1, 1, none⟩ = some (.int .i64 sd) ∧ wx.cell? ⟨pb, po + q * 4 + 1, none⟩ = some (.int .i64 (v.P q).ln))) (by kernel_rfl) ?_ (fun hHeld => ?_)
  ·
   exact ⟨a0, a1, b0, b1, c1⟩
  have MD14 : Hid (Below w.heap.size w V0.drew ∧ Box V0.drew (w.heap.size) 40 #[.slice (some ⟨pb, po, none⟩) v.n pc, .slice ja v.m jc] ∧ Box V0.drew (w.heap.size + 1) 76 #[.int .i64 (q : Int), .int .i64 sd] ∧ Box V0.drew (w.heap.size + 1 + 1) 30 #[.int .i64 0, .int .i64 0, .int .i64 0]) := ⟨S0.out.1.drew, S0.out.2.1.drew, S0.out.2.2.1.drew, S0.out.2.2.2.drew⟩
  clear a0 a1 b0 b1 c1 S0
  generalize V0.drew = VD at MD14 hHeld ⊢
  refine tk 0 ?_
  refine tk 1 ?_
  refine tk 2 ?_
  refine tk 3 ?_
  refine tk 4 ?_
  refine tk 5 ?_
  refine tk 6 ?_
  refine tk 7 ?_
  refine tk 8 ?_
  refine tk 9 ?_
  have z0 := MD14.out.2.2.2.cel 0
  have z1 := MD14.out.2.2.2.cel 1
  have z2 := MD14.out.2.2.2.cel 2
  have zf0 := MD14.out.2.2.2.free 0
  have zf1 := MD14.out.2.2.2.free 1
  have zf2 := MD14.out.2.2.2.free 2
  have MA15 : Hid (Below w.heap.size w (((VD.setCell ⟨w.heap.size + 1 + 1, 0, none⟩ (.int .i64 (q : Int))).setCell ⟨w.heap.size + 1 + 1, 1, none⟩ (.int .i64 (v.P q).ln)).setCell ⟨w.heap.size + 1 + 1, 2, none⟩ (.int .i64 (-1))) ∧ Box (((VD.setCell ⟨w.heap.size + 1 + 1, 0, none⟩ (.int .i64 (q : Int))).setCell ⟨w.heap.size + 1 + 1, 1, none⟩ (.int .i64 (v.P q).ln)).setCell ⟨w.heap.size + 1 + 1, 2, none⟩ (.int .i64 (-1))) (w.heap.size) 40 #[.slice (some ⟨pb, po, none⟩) v.n pc, .slice ja v.m jc] ∧ Box (((VD.setCell ⟨w.heap.size + 1 + 1, 0, none⟩ (.int .i64 (q : Int))).setCell ⟨w.heap.size + 1 + 1, 1, none⟩ (.int .i64 (v.P q).ln)).setCell ⟨w.heap.size + 1 + 1, 2, none⟩ (.int .i64 (-1))) (w.heap.size + 1) 76 #[.int .i64 (q : Int), .int .i64 sd] ∧ Box (((VD.setCell ⟨w.heap.size + 1 + 1, 0, none⟩ (.int .i64 (q : Int))).setCell ⟨w.heap.size + 1 + 1, 1, none⟩ (.int .i64 (v.P q).ln)).setCell ⟨w.heap.size + 1 + 1, 2, none⟩ (.int .i64 (-1))) (w.heap.size + 1 + 1) 30 #[.int .i64 (q : Int), .int .i64 (v.P q).ln, .int .i64 (-1)]) := ⟨(((MD14.out.1.setCell (Nat.le_add_right _ 2) _).setCell (Nat.le_add_right _ 2) _).setCell (Nat.le_add_right _ 2) _), (((MD14.out.2.1.other (box_ne MD14.out.2.1 MD14.out.2.2.2 (by decide)) _).other (box_ne MD14.out.2.1 MD14.out.2.2.2 (by decide)) _).other (box_ne MD14.out.2.1 MD14.out.2.2.2 (by decide)) _), (((MD14.out.2.2.1.other (box_ne MD14.out.2.2.1 MD14.out.2.2.2 (by decide)) _).other (box_ne MD14.out.2.2.1 MD14.out.2.2.2 (by decide)) _).other (box_ne MD14.out.2.2.1 MD14.out.2.2.2 (by decide)) _), by have h9 := (((MD14.out.2.2.2.set 0 (.int .i64 (q : Int))).set 1 (.int .i64 (v.P q).ln)).set 2 (.int .i64 (-1))); exact h9⟩
  have HH : Hid (VD.cell? ⟨pb, po + q * 4 + 1, none⟩ = some (.int .i64 (v.P q).ln)) := hHeld.2.2.2.2
  clear hHeld
  refine rl 10 fun K hK => ?_
  go_simp
  refine hK.out _ _ ?_ (fun hHeld => ?_)
  ·
   exact ⟨MA15.out.2.1.cell 0, MA15.out.2.1.cell 1, MA15.out.2.2.1.cell 0, MA15.out.2.2.1.cell 1, cell_keep MA15.out.1 HC1.out.1 HC1.out.2⟩
  clear hK K z0 z1 z2 zf0 zf1 zf2 hHeld MD14
  refine wpAnyH_done (by kernel_rfl) ?_ _
  generalize (((VD.setCell ⟨w.heap.size + 1 + 1, 0, none⟩ (.int .i64 (q : Int))).setCell ⟨w.heap.size + 1 + 1, 1, none⟩ (.int .i64 (v.P q).ln)).setCell ⟨w.heap.size + 1 + 1, 2, none⟩ (.int .i64 (-1))) = W9 at MA15 ⊢
  have z0 := MA15.out.2.2.2.cel 0
  have z1 := MA15.out.2.2.2.cel 1
  have z2 := MA15.out.2.2.2.cel 2
  go_wp2_with fail
  exact bodyPost_ret (v := .agg #[.int .i64 (q : Int), .int .i64 (v.P q).ln, .int .i64 (-1)]) (by simp [results, Tryz.results38, go_sem, z0, z1, z2]) rfl ⟨rfl, MA15.out.1⟩
end Go.Proofs.YtjhmaofjmalglaaGreat
