import Derived.Test.YtjhmaofjmalglaaGreatZbd
import Derived.Test.YtjhmaofjmalglaaGreatZbe
namespace Go.Proofs.YtjhmaofjmalglaaGreat
open Go.RowKit Go.Lib
set_option maxRecDepth 100000 in
set_option maxHeartbeats 32000000 in
theorem sits45 {v : Nv} (ok : v.Ok) (pa : Option Addr) (pc : Nat) (ja : Option Addr) (jc : Nat) (fp fa fw lg : Int) (nb : Nat) (B : Nat → Nat → Int) (ba : Option Addr) (bk : Nat) (la : Option Addr) (lc : Nat) (L : Nat → Int) (w : World) (hsp : spotB v fp fa fw = true) (hnb : nb ≤ 200) (hst : ∀ i, i < nb → stepB v (B i 0) (B i 1) = true) (hJ : JsAt 0 w ja v.m v.J) (hB : NsAt 2 0 w ba nb B) (hL : IsAt 0 w la v.m L) (hl : ∀ i, i < v.m → lieB v.J L i = true) :
  Calls Tryz.prog 109 #[.agg #[.slice pa v.n pc, .slice ja v.m jc], .slice la v.m lc, .agg #[.int .i64 fp, .int .i64 fa, .int .i64 fw, .int .i64 lg, .slice ba nb bk]] w fun e w' => e = .returned (.bool (railedB v L fp fw nb B)) ∧ Below w.heap.size w w' := by
 have H : Hid (v.Ok ∧ JsAt 0 w ja v.m v.J ∧ NsAt 2 0 w ba nb B ∧ IsAt 0 w la v.m L ∧ (∀ i, i < v.m → lieB v.J L i = true) ∧ (∀ i, i < nb → stepB v (B i 0) (B i 1) = true)) := ⟨ok, hJ, hB, hL, hl, hst⟩
 obtain ⟨fq, rfl, hfq, hfw, hfa⟩ : ∃ q : Nat, fp = (q : Int) ∧ q < v.n ∧ (fw = 1 ∨ fw = -1) ∧ (0 ≤ fa ∧ fa ≤ (v.P q).ln) := spot_nat hsp
 have S0 : Hid (Below w.heap.size w ((w.alloc (.cells #[.slice pa v.n pc, .slice ja v.m jc] 40)).alloc (.cells #[.int .i64 (fq : Int), .int .i64 fa, .int .i64 fw, .int .i64 lg, .slice ba nb bk] 33)) ∧ Box ((w.alloc (.cells #[.slice pa v.n pc, .slice ja v.m jc] 40)).alloc (.cells #[.int .i64 (fq : Int), .int .i64 fa, .int .i64 fw, .int .i64 lg, .slice ba nb bk] 33)) (w.heap.size) 40 #[.slice pa v.n pc, .slice ja v.m jc] ∧ Box ((w.alloc (.cells #[.slice pa v.n pc, .slice ja v.m jc] 40)).alloc (.cells #[.int .i64 (fq : Int), .int .i64 fa, .int .i64 fw, .int .i64 lg, .slice ba nb bk] 33)) (w.heap.size + 1) 33 #[.int .i64 (fq : Int), .int .i64 fa, .int .i64 fw, .int .i64 lg, .slice ba nb bk]) := ⟨bel2 _ _ _, (Box.new _ _ _).alloc _, by have := Box.new (w.alloc (.cells #[.slice pa v.n pc, .slice ja v.m jc] 40)) 33 #[.int .i64 (fq : Int), .int .i64 fa, .int .i64 fw, .int .i64 lg, .slice ba nb bk]; simpa using this⟩
 clear ok hJ hB hL hl hst hsp
 obtain ⟨R, HR⟩ : ∃ R, Hid (railedB v L (fq : Int) fw nb B = R) := ⟨_, rfl⟩
 rw [HR.out]
 go_enter Tryz.func109, Tryz.ntmps109
 go_upto_region 1 with fail
 generalize ((w.alloc (.cells #[.slice pa v.n pc, .slice ja v.m jc] 40)).alloc (.cells #[.int .i64 (fq : Int), .int .i64 fa, .int .i64 fw, .int .i64 lg, .slice ba nb bk] 33)) = V0 at S0 ⊢
 have T0 : Hid (Below w.heap.size w (V0.alloc (.cells #[.int .i64 (fq : Int), .int .i64 fw] 74)) ∧ Box (V0.alloc (.cells #[.int .i64 (fq : Int), .int .i64 fw] 74)) (w.heap.size) 40 #[.slice pa v.n pc, .slice ja v.m jc] ∧ Box (V0.alloc (.cells #[.int .i64 (fq : Int), .int .i64 fw] 74)) (w.heap.size + 1) 33 #[.int .i64 (fq : Int), .int .i64 fa, .int .i64 fw, .int .i64 lg, .slice ba nb bk] ∧ Box (V0.alloc (.cells #[.int .i64 (fq : Int), .int .i64 fw] 74)) V0.heap.size 74 #[.int .i64 (ahP (fq : Int) B 0), .int .i64 (ahW fw B 0)]) := ⟨S0.out.1.alloc S0.out.1.size _, S0.out.2.1.alloc _, S0.out.2.2.alloc _, Box.new V0 74 #[.int .i64 (fq : Int), .int .i64 fw]⟩
 have HAQ0 : Hid (w.heap.size ≤ V0.heap.size) := S0.out.1.size
 have a0 := S0.out.2.1.cel 0
 have a1 := S0.out.2.1.cel 1
 have b0 := S0.out.2.2.cel 0
 have b1 := S0.out.2.2.cel 1
 have b2 := S0.out.2.2.cel 2
 have b3 := S0.out.2.2.cel 3
 have b4 := S0.out.2.2.cel 4
 have t4 := T0.out.2.2.1.cel 4
 go_wp2_with fail
 clear a0 a1 b0 b1 b2 b3 b4 t4 S0
 generalize (V0.alloc (.cells #[.int .i64 (fq : Int), .int .i64 fw] 74)) = V4 at T0 ⊢
 generalize V0.heap.size = aq at T0 HAQ0 ⊢
 have HAQ : Hid (w.heap.size ≤ aq ∧ w.heap.size ≠ aq ∧ w.heap.size + 1 ≠ aq) := ⟨HAQ0.out, box_ne T0.out.2.1 T0.out.2.2.2 (by decide), box_ne T0.out.2.2.1 T0.out.2.2.2 (by decide)⟩
 go_loopw [23] (fun c wr => ∃ (k : Nat), k ≤ nb ∧ c = .int .i64 k ∧ Hid (∀ q, q < k → railB v L (B q 0).toNat (B q 1) (ahP (fq : Int) B q).toNat (ahW fw B q) = true) ∧ Hid (Below w.heap.size w wr ∧ Box wr (w.heap.size) 40 #[.slice pa v.n pc, .slice ja v.m jc] ∧ Box wr (w.heap.size + 1) 33 #[.int .i64 (fq : Int), .int .i64 fa, .int .i64 fw, .int .i64 lg, .slice ba nb bk] ∧ Box wr (aq) 74 #[.int .i64 (ahP (fq : Int) B k), .int .i64 (ahW fw B k)])) (fun c _ => nb - (intOf c).toNat)
 case atStart => exact ⟨0, Nat.zero_le _, rfl, fun q hq => absurd hq (Nat.not_lt_zero _), T0⟩
 case round =>
  clear T0 HAQ0
  obtain ⟨k, hk, rfl, HK, T⟩ := hrel
  by_cases hlt : k < nb
  ·
   obtain ⟨bb, bo, hbe, _, hbl, hbc⟩ := H.out.2.2.1 (by omega)
   obtain ⟨sp, HSP, hspn, hway⟩ : ∃ q : Nat, Hid (B k 0 = (q : Int)) ∧ q < v.n ∧ (B k 1 = 1 ∨ B k 1 = -1) := step_nat (H.out.2.2.2.2.2 k hlt)
   obtain ⟨an, HAN, haw⟩ : ∃ q : Nat, Hid (ahP (fq : Int) B k = (q : Int)) ∧ (ahW fw B k = 1 ∨ ahW fw B k = -1) := by
    cases k with
    | zero => exact ⟨fq, (rfl : (fq : Int) = (fq : Int)), hfw⟩
    | succ i =>
     obtain ⟨q, h2, _, h3⟩ := step_nat (H.out.2.2.2.2.2 i (by omega))
     exact ⟨q, h2, h3⟩
   obtain ⟨wy, HWY⟩ : ∃ q, Hid (B k 1 = q) := ⟨_, rfl⟩
   obtain ⟨aw, HAW⟩ : ∃ q, Hid (ahW fw B k = q) := ⟨_, rfl⟩
   obtain ⟨cd, HCD⟩ : ∃ q, Hid ((exitAt v L sp wy).2 = q) := ⟨_, rfl⟩
   obtain ⟨h0, h1, HH⟩ : ∃ h0 h1, Hid ((headE (an : Int) (-aw)).pc = h0 ∧ (headE (an : Int) (-aw)).sd = h1) := ⟨_, _, rfl, rfl⟩
   have HQE : Hid (∀ x : En, eqB x (headE an (-aw)) = (decide (x.pc = h0) && decide (x.sd = h1))) := fun x => by rw [← HH.out.1, ← HH.out.2]; unfold eqB; congr 1 <;> (rw [Bool.eq_iff_iff]; simp)
   have HBK : Hid (railB v L (B k 0).toNat (B k 1) (ahP (fq : Int) B k).toNat (ahW fw B k) = railB v L sp wy an aw) := by show _ = _; rw [HSP.out, HAN.out, Int.toNat_natCast, Int.toNat_natCast, HWY.out, HAW.out]
   have hwn : IntKind.i64.wrap (-aw) = -aw := by rw [HAW.out] at haw; rw [IntKind.wrap_i64]; omega
   have hk0 : (0 : Int) ≤ (k : Int) := by omega
   have hkn : (k : Int) < (nb : Int) := by omega
   have d0 : wr.cell? ⟨bb, bo + k * 2, none⟩ = some (.int .i64 (B k 0)) := cell_keep T.out.1 hbl (hbc k hlt 0 (by omega))
   have d1 : wr.cell? ⟨bb, bo + k * 2 + 1, none⟩ = some (.int .i64 (B k 1)) := cell_keep T.out.1 hbl (hbc k hlt 1 (by omega))
   have hbs : ba = some ⟨bb, bo, none⟩ := hbe
   subst hbs
   have T1 : Hid (Below w.heap.size w (wr.alloc (.cells #[.int .i64 (B k 0), .int .i64 (B k 1)] 74)) ∧ Box (wr.alloc (.cells #[.int .i64 (B k 0), .int .i64 (B k 1)] 74)) (w.heap.size) 40 #[.slice pa v.n pc, .slice ja v.m jc] ∧ Box (wr.alloc (.cells #[.int .i64 (B k 0), .int .i64 (B k 1)] 74)) (w.heap.size + 1) 33 #[.int .i64 (fq : Int), .int .i64 fa, .int .i64 fw, .int .i64 lg, .slice (some ⟨bb, bo, none⟩) nb bk] ∧ Box (wr.alloc (.cells #[.int .i64 (B k 0), .int .i64 (B k 1)] 74)) (aq) 74 #[.int .i64 (an : Int), .int .i64 aw] ∧ Box (wr.alloc (.cells #[.int .i64 (B k 0), .int .i64 (B k 1)] 74)) wr.heap.size 74 #[.int .i64 (sp : Int), .int .i64 wy]) := ⟨T.out.1.alloc T.out.1.size _, T.out.2.1.alloc _, T.out.2.2.1.alloc _, by
    have h9 := T.out.2.2.2.alloc (.cells #[.int .i64 (B k 0), .int .i64 (B k 1)] 74)
    rw [HAN.out, HAW.out] at h9
    exact h9, by
    have h9 := Box.new wr 74 #[.int .i64 (B k 0), .int .i64 (B k 1)]
    rw [HSP.out, HWY.out] at h9 ⊢
    exact h9⟩
   clear hbc hbl T hway haw
   go_upto_region 5 with fail
   clear d0 d1
   generalize (wr.alloc (.cells #[.int .i64 (B k 0), .int .i64 (B k 1)] 74)) = V5 at T1 ⊢
   generalize wr.heap.size = sq at T1 ⊢
   have MD : Hid (Below w.heap.size w V5.drew ∧ Box V5.drew (w.heap.size) 40 #[.slice pa v.n pc, .slice ja v.m jc] ∧ Box V5.drew (w.heap.size + 1) 33 #[.int .i64 (fq : Int), .int .i64 fa, .int .i64 fw, .int .i64 lg, .slice (some ⟨bb, bo, none⟩) nb bk] ∧ Box V5.drew (aq) 74 #[.int .i64 (an : Int), .int .i64 aw] ∧ Box V5.drew (sq) 74 #[.int .i64 (sp : Int), .int .i64 wy]) := ⟨T1.out.1.drew, T1.out.2.1.drew, T1.out.2.2.1.drew, T1.out.2.2.2.1.drew, T1.out.2.2.2.2.drew⟩
   have a0 := T1.out.2.1.cel 0
   have a1 := T1.out.2.1.cel 1
   have b0 := T1.out.2.2.1.cel 0
   have b1 := T1.out.2.2.1.cel 1
   have b2 := T1.out.2.2.1.cel 2
   have b3 := T1.out.2.2.1.cel 3
   have b4 := T1.out.2.2.1.cel 4
   have c0 := T1.out.2.2.2.1.cel 0
   have c1 := T1.out.2.2.2.1.cel 1
   have d0 := T1.out.2.2.2.2.cel 0
   have d1 := T1.out.2.2.2.2.cel 1
   clear T1
   go_wp2_with fail
   refine wp_region_held_drew (S := (fun wx : World => wx.cell? ⟨w.heap.size, 0, none⟩ = some (.slice pa v.n pc) ∧ wx.cell? ⟨w.heap.size, 1, none⟩ = some (.slice ja v.m jc) ∧ wx.cell? ⟨w.heap.size + 1, 0, none⟩ = some (.int .i64 (fq : Int)) ∧ wx.cell? ⟨w.heap.size + 1, 1, none⟩ = some (.int .i64 fa) ∧ wx.cell? ⟨w.heap.size + 1, 2, none⟩ = some (.int .i64 fw) ∧ wx.cell? ⟨w.heap.size + 1, 3, none⟩ = some (.int .i64 lg) ∧ wx.cell? ⟨w.heap.size + 1, 4, none⟩ = some (.slice (some ⟨bb, bo, none⟩) nb bk) ∧ wx.cell? ⟨aq, 0, none⟩ = some (.int .i64 (an : Int)) ∧ wx.cell? ⟨aq, 1, none⟩ = some (.int .i64 aw) ∧ wx.cell? ⟨sq, 0, none⟩ = some (.int .i64 (sp : Int)) ∧ wx.cell? ⟨sq, 1, none⟩ = some (.int .i64 wy))) (by kernel_rfl) ?_ (fun hHeld => ?_)
   ·
    exact ⟨a0, a1, b0, b1, b2, b3, b4, c0, c1, d0, d1⟩
   clear a0 a1 b0 b1 b2 b3 b4 c0 c1 d0 d1
   generalize V5.drew = VD at MD hHeld ⊢
   refine tk 0 ?_
   refine tk 1 ?_
   refine tk 2 ?_
   refine tk 3 ?_
   refine tk 4 ?_
   refine tk 5 ?_
   refine ready2_lit (i := 6) (j := 12) (by kernel_rfl) rfl rfl (fun K hK => ?_) (fun K hK => ?_)
   ·
    go_simp
    refine (l12head79 (sp : Int) wy _).mono ?_
    rintro e wh1 ⟨rfl, hb⟩
    have MA2 : Hid (Below w.heap.size w wh1 ∧ Box wh1 (w.heap.size) 40 #[.slice pa v.n pc, .slice ja v.m jc] ∧ Box wh1 (w.heap.size + 1) 33 #[.int .i64 (fq : Int), .int .i64 fa, .int .i64 fw, .int .i64 lg, .slice (some ⟨bb, bo, none⟩) nb bk] ∧ Box wh1 (aq) 74 #[.int .i64 (an : Int), .int .i64 aw] ∧ Box wh1 (sq) 74 #[.int .i64 (sp : Int), .int .i64 wy]) := ⟨MD.out.1.trans (hb.mono MD.out.1.size), MD.out.2.1.mono hb nr, MD.out.2.2.1.mono hb nr, MD.out.2.2.2.1.mono hb nr, MD.out.2.2.2.2.mono hb nr⟩
    clear hb MD
    go_wp2_with fail
    refine hK.out _ _ ?_ (fun hHeld => ?_)
    ·
     exact ⟨MA2.out.2.1.cell 0, MA2.out.2.1.cell 1, MA2.out.2.2.1.cell 0, MA2.out.2.2.1.cell 1, MA2.out.2.2.1.cell 2, MA2.out.2.2.1.cell 3, MA2.out.2.2.1.cell 4, MA2.out.2.2.2.1.cell 0, MA2.out.2.2.2.1.cell 1, MA2.out.2.2.2.2.cell 0, MA2.out.2.2.2.2.cell 1⟩
    clear hK K
    refine ready2_lit (i := 7) (j := 12) (by kernel_rfl) rfl rfl (fun K hK => ?_) (fun K hK => ?_)
    ·
     go_simp
     refine (over77 H.out.1 pa pc ja jc sp wy la lc L _ hspn (H.out.2.1.mono nr MA2.out.1 nr) (H.out.2.2.2.1.mono nr MA2.out.1 nr) H.out.2.2.2.2.1).mono ?_
     rintro e wh3 ⟨a, b, z, he, hab, hb⟩
     have HAB : Hid (cd = 0 → a = (nextAt v L sp wy).pc ∧ b = (nextAt v L sp wy).sd) := by rw [HCD.out] at hab; exact hab
     rw [HCD.out] at he
     subst he
     have MA4 : Hid (Below w.heap.size w wh3 ∧ Box wh3 (w.heap.size) 40 #[.slice pa v.n pc, .slice ja v.m jc] ∧ Box wh3 (w.heap.size + 1) 33 #[.int .i64 (fq : Int), .int .i64 fa, .int .i64 fw, .int .i64 lg, .slice (some ⟨bb, bo, none⟩) nb bk] ∧ Box wh3 (aq) 74 #[.int .i64 (an : Int), .int .i64 aw] ∧ Box wh3 (sq) 74 #[.int .i64 (sp : Int), .int .i64 wy]) := ⟨MA2.out.1.trans (hb.mono MA2.out.1.size), MA2.out.2.1.mono hb nr, MA2.out.2.2.1.mono hb nr, MA2.out.2.2.2.1.mono hb nr, MA2.out.2.2.2.2.mono hb nr⟩
     clear hb MA2 hab
     go_wp2_with fail
     refine hK.out _ _ ?_ (fun hHeld => ?_)
     ·
      exact ⟨MA4.out.2.1.cell 0, MA4.out.2.1.cell 1, MA4.out.2.2.1.cell 0, MA4.out.2.2.1.cell 1, MA4.out.2.2.1.cell 2, MA4.out.2.2.1.cell 3, MA4.out.2.2.1.cell 4, MA4.out.2.2.2.1.cell 0, MA4.out.2.2.2.1.cell 1, MA4.out.2.2.2.2.cell 0, MA4.out.2.2.2.2.cell 1⟩
     clear hK K
     refine tk 8 ?_
     refine tk 9 ?_
     refine tk 10 ?_
     refine tk 11 ?_
     refine rl 12 fun K hK => ?_
     have MA6 : Hid ((Below w.heap.size w (wh3.alloc (.cells #[.int .i64 0, .int .i64 0] 76)) ∧ Box (wh3.alloc (.cells #[.int .i64 0, .int .i64 0] 76)) (w.heap.size) 40 #[.slice pa v.n pc, .slice ja v.m jc] ∧ Box (wh3.alloc (.cells #[.int .i64 0, .int .i64 0] 76)) (w.heap.size + 1) 33 #[.int .i64 (fq : Int), .int .i64 fa, .int .i64 fw, .int .i64 lg, .slice (some ⟨bb, bo, none⟩) nb bk] ∧ Box (wh3.alloc (.cells #[.int .i64 0, .int .i64 0] 76)) (aq) 74 #[.int .i64 (an : Int), .int .i64 aw] ∧ Box (wh3.alloc (.cells #[.int .i64 0, .int .i64 0] 76)) (sq) 74 #[.int .i64 (sp : Int), .int .i64 wy] ∧ Box (wh3.alloc (.cells #[.int .i64 0, .int .i64 0] 76)) wh3.heap.size 76 #[.int .i64 0, .int .i64 0]) ∧ w.heap.size ≤ wh3.heap.size) := ⟨⟨MA4.out.1.alloc MA4.out.1.size _, MA4.out.2.1.alloc _, MA4.out.2.2.1.alloc _, MA4.out.2.2.2.1.alloc _, MA4.out.2.2.2.2.alloc _, Box.new _ _ _⟩, MA4.out.1.size⟩
     clear MA4
     go_simp
     refine hK.out _ _ ?_ (fun hHeld => ?_)
     ·
      exact ⟨MA6.out.1.2.1.cell 0, MA6.out.1.2.1.cell 1, MA6.out.1.2.2.1.cell 0, MA6.out.1.2.2.1.cell 1, MA6.out.1.2.2.1.cell 2, MA6.out.1.2.2.1.cell 3, MA6.out.1.2.2.1.cell 4, MA6.out.1.2.2.2.1.cell 0, MA6.out.1.2.2.2.1.cell 1, MA6.out.1.2.2.2.2.1.cell 0, MA6.out.1.2.2.2.2.1.cell 1⟩
     clear hK K
     generalize wh3.alloc (.cells #[.int .i64 0, .int .i64 0] 76) = wh5 at MA6 ⊢
     generalize wh3.heap.size = eq at MA6 ⊢
     have HEQ : Hid (w.heap.size ≤ eq) := MA6.out.2
     have MA6x : Hid (Below w.heap.size w wh5 ∧ Box wh5 (w.heap.size) 40 #[.slice pa v.n pc, .slice ja v.m jc] ∧ Box wh5 (w.heap.size + 1) 33 #[.int .i64 (fq : Int), .int .i64 fa, .int .i64 fw, .int .i64 lg, .slice (some ⟨bb, bo, none⟩) nb bk] ∧ Box wh5 (aq) 74 #[.int .i64 (an : Int), .int .i64 aw] ∧ Box wh5 (sq) 74 #[.int .i64 (sp : Int), .int .i64 wy] ∧ Box wh5 (eq) 76 #[.int .i64 0, .int .i64 0]) := MA6.out.1
     clear MA6
     have z0 := MA6x.out.2.2.2.2.2.cel 0
     have z1 := MA6x.out.2.2.2.2.2.cel 1
     have q0 := MA6x.out.2.2.2.2.2.free 0
     have q1 := MA6x.out.2.2.2.2.2.free 1
     have HNQ : Hid (w.heap.size ≠ eq ∧ w.heap.size + 1 ≠ eq ∧ aq ≠ eq ∧ sq ≠ eq) := ⟨box_ne MA6x.out.2.1 MA6x.out.2.2.2.2.2 (by decide), box_ne MA6x.out.2.2.1 MA6x.out.2.2.2.2.2 (by decide), box_ne MA6x.out.2.2.2.1 MA6x.out.2.2.2.2.2 (by decide), box_ne MA6x.out.2.2.2.2.1 MA6x.out.2.2.2.2.2 (by decide)⟩
     have MF : Hid (Below w.heap.size w ((wh5.setCell ⟨eq, 0, none⟩ (.int .i64 a)).setCell ⟨eq, 1, none⟩ (.int .i64 b)) ∧ Box ((wh5.setCell ⟨eq, 0, none⟩ (.int .i64 a)).setCell ⟨eq, 1, none⟩ (.int .i64 b)) (w.heap.size) 40 #[.slice pa v.n pc, .slice ja v.m jc] ∧ Box ((wh5.setCell ⟨eq, 0, none⟩ (.int .i64 a)).setCell ⟨eq, 1, none⟩ (.int .i64 b)) (w.heap.size + 1) 33 #[.int .i64 (fq : Int), .int .i64 fa, .int .i64 fw, .int .i64 lg, .slice (some ⟨bb, bo, none⟩) nb bk] ∧ Box ((wh5.setCell ⟨eq, 0, none⟩ (.int .i64 a)).setCell ⟨eq, 1, none⟩ (.int .i64 b)) (aq) 74 #[.int .i64 (an : Int), .int .i64 aw] ∧ Box ((wh5.setCell ⟨eq, 0, none⟩ (.int .i64 a)).setCell ⟨eq, 1, none⟩ (.int .i64 b)) (sq) 74 #[.int .i64 (sp : Int), .int .i64 wy] ∧ Box ((wh5.setCell ⟨eq, 0, none⟩ (.int .i64 a)).setCell ⟨eq, 1, none⟩ (.int .i64 b)) (eq) 76 #[.int .i64 a, .int .i64 b]) := ⟨(MA6x.out.1.setCell HEQ.out _).setCell HEQ.out _, (MA6x.out.2.1.other HNQ.out.1 _).other HNQ.out.1 _, (MA6x.out.2.2.1.other HNQ.out.2.1 _).other HNQ.out.2.1 _, (MA6x.out.2.2.2.1.other HNQ.out.2.2.1 _).other HNQ.out.2.2.1 _, (MA6x.out.2.2.2.2.1.other HNQ.out.2.2.2 _).other HNQ.out.2.2.2 _, by
      have h9 := (MA6x.out.2.2.2.2.2.set 0 (.int .i64 a)).set 1 (.int .i64 b)
      exact h9⟩
     clear MA6x
     refine rl 13 fun K hK => ?_
     go_simp
     refine hK.out _ _ ?_ (fun hHeld => ?_)
     ·
      exact ⟨MF.out.2.1.cell 0, MF.out.2.1.cell 1, MF.out.2.2.1.cell 0, MF.out.2.2.1.cell 1, MF.out.2.2.1.cell 2, MF.out.2.2.1.cell 3, MF.out.2.2.1.cell 4, MF.out.2.2.2.1.cell 0, MF.out.2.2.2.1.cell 1, MF.out.2.2.2.2.1.cell 0, MF.out.2.2.2.2.1.cell 1⟩
     clear hK K
     clear z0 z1 q0 q1
     refine tk 14 ?_
     refine tk 15 ?_
     refine wpAnyH_done (by kernel_rfl) ?_ _
     clear hHeld
     generalize ((wh5.setCell ⟨eq, 0, none⟩ (.int .i64 a)).setCell ⟨eq, 1, none⟩ (.int .i64 b)) = W9 at MF ⊢
     have a0 := MF.out.2.1.cel 0
     have a1 := MF.out.2.1.cel 1
     have b0 := MF.out.2.2.1.cel 0
     have b1 := MF.out.2.2.1.cel 1
     have b2 := MF.out.2.2.1.cel 2
     have b3 := MF.out.2.2.1.cel 3
     have b4 := MF.out.2.2.1.cel 4
     have c0 := MF.out.2.2.2.1.cel 0
     have c1 := MF.out.2.2.2.1.cel 1
     have d0 := MF.out.2.2.2.2.1.cel 0
     have d1 := MF.out.2.2.2.2.1.cel 1
     have e0 := MF.out.2.2.2.2.2.cel 0
     have e1 := MF.out.2.2.2.2.2.cel 1
     have MFD : Hid (Below w.heap.size w W9.drew ∧ Box W9.drew (w.heap.size) 40 #[.slice pa v.n pc, .slice ja v.m jc] ∧ Box W9.drew (w.heap.size + 1) 33 #[.int .i64 (fq : Int), .int .i64 fa, .int .i64 fw, .int .i64 lg, .slice (some ⟨bb, bo, none⟩) nb bk] ∧ Box W9.drew (aq) 74 #[.int .i64 (an : Int), .int .i64 aw] ∧ Box W9.drew (sq) 74 #[.int .i64 (sp : Int), .int .i64 wy] ∧ Box W9.drew (eq) 76 #[.int .i64 a, .int .i64 b]) := ⟨MF.out.1.drew, MF.out.2.1.drew, MF.out.2.2.1.drew, MF.out.2.2.2.1.drew, MF.out.2.2.2.2.1.drew, MF.out.2.2.2.2.2.drew⟩
     by_cases hcd : cd = 0
     ·
      subst hcd
      have HA2 : Hid (a = (nextAt v L sp wy).pc ∧ b = (nextAt v L sp wy).sd) := HAB.out rfl
      have HV : Hid (railB v L sp wy an aw = (decide (a = h0) && decide (b = h1))) := by show _ = _; rw [railB, HCD.out, HQE.out, ← HA2.out.1, ← HA2.out.2]; rfl
      by_cases h2 : a = h0
      ·
       by_cases h3 : b = h1
       ·
        subst h2
        subst h3
        have HK2 : Hid (∀ q, q < k + 1 → railB v L (B q 0).toNat (B q 1) (ahP (fq : Int) B q).toNat (ahW fw B q) = true) := fun q hq => by
         by_cases c : q = k
         ·
          subst c
          exact HBK.out.trans (HV.out.trans (by simp))
         ·
          exact HK.out q (by omega)
        go_wp2_with fail
        refine wp_region_held_drew (S := (fun wx : World => wx.cell? ⟨w.heap.size, 0, none⟩ = some (.slice pa v.n pc) ∧ wx.cell? ⟨w.heap.size, 1, none⟩ = some (.slice ja v.m jc) ∧ wx.cell? ⟨w.heap.size + 1, 0, none⟩ = some (.int .i64 (fq : Int)) ∧ wx.cell? ⟨w.heap.size + 1, 1, none⟩ = some (.int .i64 fa) ∧ wx.cell? ⟨w.heap.size + 1, 2, none⟩ = some (.int .i64 fw) ∧ wx.cell? ⟨w.heap.size + 1, 3, none⟩ = some (.int .i64 lg) ∧ wx.cell? ⟨w.heap.size + 1, 4, none⟩ = some (.slice (some ⟨bb, bo, none⟩) nb bk) ∧ wx.cell? ⟨aq, 0, none⟩ = some (.int .i64 (an : Int)) ∧ wx.cell? ⟨aq, 1, none⟩ = some (.int .i64 aw) ∧ wx.cell? ⟨sq, 0, none⟩ = some (.int .i64 (sp : Int)) ∧ wx.cell? ⟨sq, 1, none⟩ = some (.int .i64 wy) ∧ wx.cell? ⟨eq, 0, none⟩ = some (.int .i64 a) ∧ wx.cell? ⟨eq, 1, none⟩ = some (.int .i64 b))) (by kernel_rfl) ?_ (fun hHeld => ?_)
        ·
         exact ⟨a0, a1, b0, b1, b2, b3, b4, c0, c1, d0, d1, e0, e1⟩
        refine tk 0 ?_
        refine tk 1 ?_
        refine tk 2 ?_
        refine tk 3 ?_
        refine tk 4 ?_
        refine tk 5 ?_
        refine tk 6 ?_
        refine tk 7 ?_
        refine tk 8 ?_
        refine rl 9 fun K hK => ?_
        go_simp
        refine (l12head79 (an : Int) (-aw) _).mono ?_
        rintro e wz ⟨he, hb⟩
        rw [HH.out.1, HH.out.2] at he
        subst he
        have MG : Hid (Below w.heap.size w wz ∧ Box wz (w.heap.size) 40 #[.slice pa v.n pc, .slice ja v.m jc] ∧ Box wz (w.heap.size + 1) 33 #[.int .i64 (fq : Int), .int .i64 fa, .int .i64 fw, .int .i64 lg, .slice (some ⟨bb, bo, none⟩) nb bk] ∧ Box wz (aq) 74 #[.int .i64 (an : Int), .int .i64 aw] ∧ Box wz (sq) 74 #[.int .i64 (sp : Int), .int .i64 wy] ∧ Box wz (eq) 76 #[.int .i64 a, .int .i64 b]) := ⟨MFD.out.1.trans (hb.mono MFD.out.1.size), MFD.out.2.1.mono hb nr, MFD.out.2.2.1.mono hb nr, MFD.out.2.2.2.1.mono hb nr, MFD.out.2.2.2.2.1.mono hb nr, MFD.out.2.2.2.2.2.mono hb nr⟩
        clear hb
        go_wp2_with fail
        refine hK.out _ _ ?_ (fun hHeld9 => ?_)
        ·
         exact ⟨MG.out.2.1.cell 0, MG.out.2.1.cell 1, MG.out.2.2.1.cell 0, MG.out.2.2.1.cell 1, MG.out.2.2.1.cell 2, MG.out.2.2.1.cell 3, MG.out.2.2.1.cell 4, MG.out.2.2.2.1.cell 0, MG.out.2.2.2.1.cell 1, MG.out.2.2.2.2.1.cell 0, MG.out.2.2.2.2.1.cell 1, MG.out.2.2.2.2.2.cell 0, MG.out.2.2.2.2.2.cell 1⟩
        clear hK K
        refine tk 10 ?_
        refine tk 11 ?_
        refine wpAnyH_done (by kernel_rfl) ?_ _
        clear a0 a1 b0 b1 b2 b3 b4 c0 c1 d0 d1 e0 e1 hHeld hHeld9 MFD MF
        have a0 := MG.out.2.1.cel 0
        have a1 := MG.out.2.1.cel 1
        have b0 := MG.out.2.2.1.cel 0
        have b1 := MG.out.2.2.1.cel 1
        have b2 := MG.out.2.2.1.cel 2
        have b3 := MG.out.2.2.1.cel 3
        have b4 := MG.out.2.2.1.cel 4
        have c0 := MG.out.2.2.2.1.cel 0
        have c1 := MG.out.2.2.2.1.cel 1
        have d0 := MG.out.2.2.2.2.1.cel 0
        have d1 := MG.out.2.2.2.2.1.cel 1
        have e0 := MG.out.2.2.2.2.2.cel 0
        have e1 := MG.out.2.2.2.2.2.cel 1
        have f0 := MG.out.2.2.2.1.free 0
        have f1 := MG.out.2.2.2.1.free 1
        have T8 : Hid (Below w.heap.size w ((wz.setCell ⟨aq, 0, none⟩ (.int .i64 (sp : Int))).setCell ⟨aq, 1, none⟩ (.int .i64 wy)) ∧ Box ((wz.setCell ⟨aq, 0, none⟩ (.int .i64 (sp : Int))).setCell ⟨aq, 1, none⟩ (.int .i64 wy)) (w.heap.size) 40 #[.slice pa v.n pc, .slice ja v.m jc] ∧ Box ((wz.setCell ⟨aq, 0, none⟩ (.int .i64 (sp : Int))).setCell ⟨aq, 1, none⟩ (.int .i64 wy)) (w.heap.size + 1) 33 #[.int .i64 (fq : Int), .int .i64 fa, .int .i64 fw, .int .i64 lg, .slice (some ⟨bb, bo, none⟩) nb bk] ∧ Box ((wz.setCell ⟨aq, 0, none⟩ (.int .i64 (sp : Int))).setCell ⟨aq, 1, none⟩ (.int .i64 wy)) (aq) 74 #[.int .i64 (ahP (fq : Int) B (k + 1)), .int .i64 (ahW fw B (k + 1))]) := by
         refine ⟨(MG.out.1.setCell HAQ.out.1 _).setCell HAQ.out.1 _, (MG.out.2.1.other HAQ.out.2.1 _).other HAQ.out.2.1 _, (MG.out.2.2.1.other HAQ.out.2.2 _).other HAQ.out.2.2 _, ?_⟩
         have h9 := (MG.out.2.2.2.1.set 0 (.int .i64 (sp : Int))).set 1 (.int .i64 wy)
         rw [show ahP (fq : Int) B (k + 1) = (sp : Int) from HSP.out, show ahW fw B (k + 1) = wy from HWY.out]
         exact h9
        clear MG
        go_wp2_with fail
        clear a0 a1 b0 b1 b2 b3 b4 c0 c1 d0 d1 e0 e1 f0 f1
        go_roundw
        case rel => exact ⟨k + 1, by omega, by go_num, HK2, T8⟩
        case measure => simp [intOf]; omega
       ·
        subst h2
        have h3' : (b == h1) = false := by simpa using h3
        have HW : Hid (railB v L sp wy an aw = false) := HV.out.trans (by rw [decide_eq_false h3, Bool.and_false])
        go_wp2_with fail
        refine wp_region_held_drew (S := (fun wx : World => wx.cell? ⟨w.heap.size, 0, none⟩ = some (.slice pa v.n pc) ∧ wx.cell? ⟨w.heap.size, 1, none⟩ = some (.slice ja v.m jc) ∧ wx.cell? ⟨w.heap.size + 1, 0, none⟩ = some (.int .i64 (fq : Int)) ∧ wx.cell? ⟨w.heap.size + 1, 1, none⟩ = some (.int .i64 fa) ∧ wx.cell? ⟨w.heap.size + 1, 2, none⟩ = some (.int .i64 fw) ∧ wx.cell? ⟨w.heap.size + 1, 3, none⟩ = some (.int .i64 lg) ∧ wx.cell? ⟨w.heap.size + 1, 4, none⟩ = some (.slice (some ⟨bb, bo, none⟩) nb bk) ∧ wx.cell? ⟨aq, 0, none⟩ = some (.int .i64 (an : Int)) ∧ wx.cell? ⟨aq, 1, none⟩ = some (.int .i64 aw) ∧ wx.cell? ⟨sq, 0, none⟩ = some (.int .i64 (sp : Int)) ∧ wx.cell? ⟨sq, 1, none⟩ = some (.int .i64 wy) ∧ wx.cell? ⟨eq, 0, none⟩ = some (.int .i64 a) ∧ wx.cell? ⟨eq, 1, none⟩ = some (.int .i64 b))) (by kernel_rfl) ?_ (fun hHeld => ?_)
        ·
         exact ⟨a0, a1, b0, b1, b2, b3, b4, c0, c1, d0, d1, e0, e1⟩
        refine tk 0 ?_
        refine tk 1 ?_
        refine tk 2 ?_
        refine tk 3 ?_
        refine tk 4 ?_
        refine tk 5 ?_
        refine tk 6 ?_
        refine tk 7 ?_
        refine tk 8 ?_
        refine rl 9 fun K hK => ?_
        go_simp
        refine (l12head79 (an : Int) (-aw) _).mono ?_
        rintro e wz ⟨he, hb⟩
        rw [HH.out.1, HH.out.2] at he
        subst he
        have MG : Hid (Below w.heap.size w wz ∧ Box wz (w.heap.size) 40 #[.slice pa v.n pc, .slice ja v.m jc] ∧ Box wz (w.heap.size + 1) 33 #[.int .i64 (fq : Int), .int .i64 fa, .int .i64 fw, .int .i64 lg, .slice (some ⟨bb, bo, none⟩) nb bk] ∧ Box wz (aq) 74 #[.int .i64 (an : Int), .int .i64 aw] ∧ Box wz (sq) 74 #[.int .i64 (sp : Int), .int .i64 wy] ∧ Box wz (eq) 76 #[.int .i64 a, .int .i64 b]) := ⟨MFD.out.1.trans (hb.mono MFD.out.1.size), MFD.out.2.1.mono hb nr, MFD.out.2.2.1.mono hb nr, MFD.out.2.2.2.1.mono hb nr, MFD.out.2.2.2.2.1.mono hb nr, MFD.out.2.2.2.2.2.mono hb nr⟩
        clear hb
        go_wp2_with fail
        refine hK.out _ _ ?_ (fun hHeld9 => ?_)
        ·
         exact ⟨MG.out.2.1.cell 0, MG.out.2.1.cell 1, MG.out.2.2.1.cell 0, MG.out.2.2.1.cell 1, MG.out.2.2.1.cell 2, MG.out.2.2.1.cell 3, MG.out.2.2.1.cell 4, MG.out.2.2.2.1.cell 0, MG.out.2.2.2.1.cell 1, MG.out.2.2.2.2.1.cell 0, MG.out.2.2.2.2.1.cell 1, MG.out.2.2.2.2.2.cell 0, MG.out.2.2.2.2.2.cell 1⟩
        clear hK K
        refine tk 10 ?_
        refine tk 11 ?_
        refine wpAnyH_done (by kernel_rfl) ?_ _
        have HT : Hid (R = false) := HR.out.symm.trans (allT_no hlt (HBK.out.trans (HW.out)))
        have HE : Hid (Below w.heap.size w wz) := MG.out.1
        clear a0 a1 b0 b1 b2 b3 b4 c0 c1 d0 d1 e0 e1
        go_wp2_with fail
        go_ret
        exact ⟨by rw [HT.out]; rfl, HE.out⟩
      ·
       have h2' : (a == h0) = false := by simpa using h2
       have HW : Hid (railB v L sp wy an aw = false) := HV.out.trans (by rw [decide_eq_false h2, Bool.false_and])
       go_wp2_with fail
       refine wp_region_held_drew (S := (fun wx : World => wx.cell? ⟨w.heap.size, 0, none⟩ = some (.slice pa v.n pc) ∧ wx.cell? ⟨w.heap.size, 1, none⟩ = some (.slice ja v.m jc) ∧ wx.cell? ⟨w.heap.size + 1, 0, none⟩ = some (.int .i64 (fq : Int)) ∧ wx.cell? ⟨w.heap.size + 1, 1, none⟩ = some (.int .i64 fa) ∧ wx.cell? ⟨w.heap.size + 1, 2, none⟩ = some (.int .i64 fw) ∧ wx.cell? ⟨w.heap.size + 1, 3, none⟩ = some (.int .i64 lg) ∧ wx.cell? ⟨w.heap.size + 1, 4, none⟩ = some (.slice (some ⟨bb, bo, none⟩) nb bk) ∧ wx.cell? ⟨aq, 0, none⟩ = some (.int .i64 (an : Int)) ∧ wx.cell? ⟨aq, 1, none⟩ = some (.int .i64 aw) ∧ wx.cell? ⟨sq, 0, none⟩ = some (.int .i64 (sp : Int)) ∧ wx.cell? ⟨sq, 1, none⟩ = some (.int .i64 wy) ∧ wx.cell? ⟨eq, 0, none⟩ = some (.int .i64 a) ∧ wx.cell? ⟨eq, 1, none⟩ = some (.int .i64 b))) (by kernel_rfl) ?_ (fun hHeld => ?_)
       ·
        exact ⟨a0, a1, b0, b1, b2, b3, b4, c0, c1, d0, d1, e0, e1⟩
       refine tk 0 ?_
       refine tk 1 ?_
       refine tk 2 ?_
       refine tk 3 ?_
       refine tk 4 ?_
       refine tk 5 ?_
       refine tk 6 ?_
       refine tk 7 ?_
       refine tk 8 ?_
       refine rl 9 fun K hK => ?_
       go_simp
       refine (l12head79 (an : Int) (-aw) _).mono ?_
       rintro e wz ⟨he, hb⟩
       rw [HH.out.1, HH.out.2] at he
       subst he
       have MG : Hid (Below w.heap.size w wz ∧ Box wz (w.heap.size) 40 #[.slice pa v.n pc, .slice ja v.m jc] ∧ Box wz (w.heap.size + 1) 33 #[.int .i64 (fq : Int), .int .i64 fa, .int .i64 fw, .int .i64 lg, .slice (some ⟨bb, bo, none⟩) nb bk] ∧ Box wz (aq) 74 #[.int .i64 (an : Int), .int .i64 aw] ∧ Box wz (sq) 74 #[.int .i64 (sp : Int), .int .i64 wy] ∧ Box wz (eq) 76 #[.int .i64 a, .int .i64 b]) := ⟨MFD.out.1.trans (hb.mono MFD.out.1.size), MFD.out.2.1.mono hb nr, MFD.out.2.2.1.mono hb nr, MFD.out.2.2.2.1.mono hb nr, MFD.out.2.2.2.2.1.mono hb nr, MFD.out.2.2.2.2.2.mono hb nr⟩
       clear hb
       go_wp2_with fail
       refine hK.out _ _ ?_ (fun hHeld9 => ?_)
       ·
        exact ⟨MG.out.2.1.cell 0, MG.out.2.1.cell 1, MG.out.2.2.1.cell 0, MG.out.2.2.1.cell 1, MG.out.2.2.1.cell 2, MG.out.2.2.1.cell 3, MG.out.2.2.1.cell 4, MG.out.2.2.2.1.cell 0, MG.out.2.2.2.1.cell 1, MG.out.2.2.2.2.1.cell 0, MG.out.2.2.2.2.1.cell 1, MG.out.2.2.2.2.2.cell 0, MG.out.2.2.2.2.2.cell 1⟩
       clear hK K
       refine tk 10 ?_
       refine tk 11 ?_
       refine wpAnyH_done (by kernel_rfl) ?_ _
       have HT : Hid (R = false) := HR.out.symm.trans (allT_no hlt (HBK.out.trans (HW.out)))
       have HE : Hid (Below w.heap.size w wz) := MG.out.1
       clear a0 a1 b0 b1 b2 b3 b4 c0 c1 d0 d1 e0 e1
       go_wp2_with fail
       go_ret
       exact ⟨by rw [HT.out]; rfl, HE.out⟩
     ·
      have hcd' : (cd != 0) = true := by simpa using hcd
      have HW : Hid (railB v L sp wy an aw = false) := by show _ = _; rw [railB, HCD.out, decide_eq_false hcd, Bool.false_and]
      go_wp2_with fail
      refine wp_region_held_drew (S := (fun wx : World => wx.cell? ⟨w.heap.size, 0, none⟩ = some (.slice pa v.n pc) ∧ wx.cell? ⟨w.heap.size, 1, none⟩ = some (.slice ja v.m jc) ∧ wx.cell? ⟨w.heap.size + 1, 0, none⟩ = some (.int .i64 (fq : Int)) ∧ wx.cell? ⟨w.heap.size + 1, 1, none⟩ = some (.int .i64 fa) ∧ wx.cell? ⟨w.heap.size + 1, 2, none⟩ = some (.int .i64 fw) ∧ wx.cell? ⟨w.heap.size + 1, 3, none⟩ = some (.int .i64 lg) ∧ wx.cell? ⟨w.heap.size + 1, 4, none⟩ = some (.slice (some ⟨bb, bo, none⟩) nb bk) ∧ wx.cell? ⟨aq, 0, none⟩ = some (.int .i64 (an : Int)) ∧ wx.cell? ⟨aq, 1, none⟩ = some (.int .i64 aw) ∧ wx.cell? ⟨sq, 0, none⟩ = some (.int .i64 (sp : Int)) ∧ wx.cell? ⟨sq, 1, none⟩ = some (.int .i64 wy) ∧ wx.cell? ⟨eq, 0, none⟩ = some (.int .i64 a) ∧ wx.cell? ⟨eq, 1, none⟩ = some (.int .i64 b))) (by kernel_rfl) ?_ (fun hHeld => ?_)
      ·
       exact ⟨a0, a1, b0, b1, b2, b3, b4, c0, c1, d0, d1, e0, e1⟩
      refine tk 0 ?_
      refine tk 1 ?_
      refine tk 2 ?_
      refine tf 3 ?_
      refine tf 4 ?_
      refine tf 5 ?_
      refine tf 6 ?_
      refine tf 7 ?_
      refine tf 8 ?_
      refine tf 9 ?_
      refine tf 10 ?_
      refine tk 11 ?_
      refine wpAnyH_done (by kernel_rfl) ?_ _
      have HT : Hid (R = false) := HR.out.symm.trans (allT_no hlt (HBK.out.trans (HW.out)))
      have HE : Hid (Below w.heap.size w W9.drew) := MFD.out.1
      clear a0 a1 b0 b1 b2 b3 b4 c0 c1 d0 d1 e0 e1
      go_wp2_with fail
      go_ret
      exact ⟨by rw [HT.out]; rfl, HE.out⟩
    ·
     have MA8 : Hid ((Below w.heap.size w (wh1.alloc (.cells #[.int .i64 0, .int .i64 0] 76)) ∧ Box (wh1.alloc (.cells #[.int .i64 0, .int .i64 0] 76)) (w.heap.size) 40 #[.slice pa v.n pc, .slice ja v.m jc] ∧ Box (wh1.alloc (.cells #[.int .i64 0, .int .i64 0] 76)) (w.heap.size + 1) 33 #[.int .i64 (fq : Int), .int .i64 fa, .int .i64 fw, .int .i64 lg, .slice (some ⟨bb, bo, none⟩) nb bk] ∧ Box (wh1.alloc (.cells #[.int .i64 0, .int .i64 0] 76)) (aq) 74 #[.int .i64 (an : Int), .int .i64 aw] ∧ Box (wh1.alloc (.cells #[.int .i64 0, .int .i64 0] 76)) (sq) 74 #[.int .i64 (sp : Int), .int .i64 wy] ∧ Box (wh1.alloc (.cells #[.int .i64 0, .int .i64 0] 76)) wh1.heap.size 76 #[.int .i64 0, .int .i64 0]) ∧ w.heap.size ≤ wh1.heap.size) := ⟨⟨MA2.out.1.alloc MA2.out.1.size _, MA2.out.2.1.alloc _, MA2.out.2.2.1.alloc _, MA2.out.2.2.2.1.alloc _, MA2.out.2.2.2.2.alloc _, Box.new _ _ _⟩, MA2.out.1.size⟩
     clear MA2
     go_simp
     refine hK.out _ _ ?_ (fun hHeld => ?_)
     ·
      exact ⟨MA8.out.1.2.1.cell 0, MA8.out.1.2.1.cell 1, MA8.out.1.2.2.1.cell 0, MA8.out.1.2.2.1.cell 1, MA8.out.1.2.2.1.cell 2, MA8.out.1.2.2.1.cell 3, MA8.out.1.2.2.1.cell 4, MA8.out.1.2.2.2.1.cell 0, MA8.out.1.2.2.2.1.cell 1, MA8.out.1.2.2.2.2.1.cell 0, MA8.out.1.2.2.2.2.1.cell 1⟩
     clear hK K
     generalize wh1.alloc (.cells #[.int .i64 0, .int .i64 0] 76) = wh7 at MA8 ⊢
     generalize wh1.heap.size = eq at MA8 ⊢
     have HEQ : Hid (w.heap.size ≤ eq) := MA8.out.2
     have MA8x : Hid (Below w.heap.size w wh7 ∧ Box wh7 (w.heap.size) 40 #[.slice pa v.n pc, .slice ja v.m jc] ∧ Box wh7 (w.heap.size + 1) 33 #[.int .i64 (fq : Int), .int .i64 fa, .int .i64 fw, .int .i64 lg, .slice (some ⟨bb, bo, none⟩) nb bk] ∧ Box wh7 (aq) 74 #[.int .i64 (an : Int), .int .i64 aw] ∧ Box wh7 (sq) 74 #[.int .i64 (sp : Int), .int .i64 wy] ∧ Box wh7 (eq) 76 #[.int .i64 0, .int .i64 0]) := MA8.out.1
     clear MA8
     refine rl 7 fun K hK => ?_
     go_simp
     refine (over77 H.out.1 pa pc ja jc sp wy la lc L _ hspn (H.out.2.1.mono nr MA8x.out.1 nr) (H.out.2.2.2.1.mono nr MA8x.out.1 nr) H.out.2.2.2.2.1).mono ?_
     rintro e wh9 ⟨a, b, z, he, hab, hb⟩
     have HAB : Hid (cd = 0 → a = (nextAt v L sp wy).pc ∧ b = (nextAt v L sp wy).sd) := by rw [HCD.out] at hab; exact hab
     rw [HCD.out] at he
     subst he
     have MA10 : Hid (Below w.heap.size w wh9 ∧ Box wh9 (w.heap.size) 40 #[.slice pa v.n pc, .slice ja v.m jc] ∧ Box wh9 (w.heap.size + 1) 33 #[.int .i64 (fq : Int), .int .i64 fa, .int .i64 fw, .int .i64 lg, .slice (some ⟨bb, bo, none⟩) nb bk] ∧ Box wh9 (aq) 74 #[.int .i64 (an : Int), .int .i64 aw] ∧ Box wh9 (sq) 74 #[.int .i64 (sp : Int), .int .i64 wy] ∧ Box wh9 (eq) 76 #[.int .i64 0, .int .i64 0]) := ⟨MA8x.out.1.trans (hb.mono MA8x.out.1.size), MA8x.out.2.1.mono hb nr, MA8x.out.2.2.1.mono hb nr, MA8x.out.2.2.2.1.mono hb nr, MA8x.out.2.2.2.2.1.mono hb nr, MA8x.out.2.2.2.2.2.mono hb nr⟩
     clear hb MA8x hab
     go_wp2_with fail
     refine hK.out _ _ ?_ (fun hHeld => ?_)
     ·
      exact ⟨MA10.out.2.1.cell 0, MA10.out.2.1.cell 1, MA10.out.2.2.1.cell 0, MA10.out.2.2.1.cell 1, MA10.out.2.2.1.cell 2, MA10.out.2.2.1.cell 3, MA10.out.2.2.1.cell 4, MA10.out.2.2.2.1.cell 0, MA10.out.2.2.2.1.cell 1, MA10.out.2.2.2.2.1.cell 0, MA10.out.2.2.2.2.1.cell 1⟩
     clear hK K
     refine tk 8 ?_
     refine tk 9 ?_
     refine tk 10 ?_
     refine tk 11 ?_
     have z0 := MA10.out.2.2.2.2.2.cel 0
     have z1 := MA10.out.2.2.2.2.2.cel 1
     have q0 := MA10.out.2.2.2.2.2.free 0
     have q1 := MA10.out.2.2.2.2.2.free 1
     have HNQ : Hid (w.heap.size ≠ eq ∧ w.heap.size + 1 ≠ eq ∧ aq ≠ eq ∧ sq ≠ eq) := ⟨box_ne MA10.out.2.1 MA10.out.2.2.2.2.2 (by decide), box_ne MA10.out.2.2.1 MA10.out.2.2.2.2.2 (by decide), box_ne MA10.out.2.2.2.1 MA10.out.2.2.2.2.2 (by decide), box_ne MA10.out.2.2.2.2.1 MA10.out.2.2.2.2.2 (by decide)⟩
     have MF : Hid (Below w.heap.size w ((wh9.setCell ⟨eq, 0, none⟩ (.int .i64 a)).setCell ⟨eq, 1, none⟩ (.int .i64 b)) ∧ Box ((wh9.setCell ⟨eq, 0, none⟩ (.int .i64 a)).setCell ⟨eq, 1, none⟩ (.int .i64 b)) (w.heap.size) 40 #[.slice pa v.n pc, .slice ja v.m jc] ∧ Box ((wh9.setCell ⟨eq, 0, none⟩ (.int .i64 a)).setCell ⟨eq, 1, none⟩ (.int .i64 b)) (w.heap.size + 1) 33 #[.int .i64 (fq : Int), .int .i64 fa, .int .i64 fw, .int .i64 lg, .slice (some ⟨bb, bo, none⟩) nb bk] ∧ Box ((wh9.setCell ⟨eq, 0, none⟩ (.int .i64 a)).setCell ⟨eq, 1, none⟩ (.int .i64 b)) (aq) 74 #[.int .i64 (an : Int), .int .i64 aw] ∧ Box ((wh9.setCell ⟨eq, 0, none⟩ (.int .i64 a)).setCell ⟨eq, 1, none⟩ (.int .i64 b)) (sq) 74 #[.int .i64 (sp : Int), .int .i64 wy] ∧ Box ((wh9.setCell ⟨eq, 0, none⟩ (.int .i64 a)).setCell ⟨eq, 1, none⟩ (.int .i64 b)) (eq) 76 #[.int .i64 a, .int .i64 b]) := ⟨(MA10.out.1.setCell HEQ.out _).setCell HEQ.out _, (MA10.out.2.1.other HNQ.out.1 _).other HNQ.out.1 _, (MA10.out.2.2.1.other HNQ.out.2.1 _).other HNQ.out.2.1 _, (MA10.out.2.2.2.1.other HNQ.out.2.2.1 _).other HNQ.out.2.2.1 _, (MA10.out.2.2.2.2.1.other HNQ.out.2.2.2 _).other HNQ.out.2.2.2 _, by
      have h9 := (MA10.out.2.2.2.2.2.set 0 (.int .i64 a)).set 1 (.int .i64 b)
      exact h9⟩
     clear MA10
     refine rl 13 fun K hK => ?_
     go_simp
     refine hK.out _ _ ?_ (fun hHeld => ?_)
     ·
      exact ⟨MF.out.2.1.cell 0, MF.out.2.1.cell 1, MF.out.2.2.1.cell 0, MF.out.2.2.1.cell 1, MF.out.2.2.1.cell 2, MF.out.2.2.1.cell 3, MF.out.2.2.1.cell 4, MF.out.2.2.2.1.cell 0, MF.out.2.2.2.1.cell 1, MF.out.2.2.2.2.1.cell 0, MF.out.2.2.2.2.1.cell 1⟩
     clear hK K
     clear z0 z1 q0 q1
     refine tk 14 ?_
     refine tk 15 ?_
     refine wpAnyH_done (by kernel_rfl) ?_ _
     clear hHeld
     generalize ((wh9.setCell ⟨eq, 0, none⟩ (.int .i64 a)).setCell ⟨eq, 1, none⟩ (.int .i64 b)) = W9 at MF ⊢
     have a0 := MF.out.2.1.cel 0
     have a1 := MF.out.2.1.cel 1
     have b0 := MF.out.2.2.1.cel 0
     have b1 := MF.out.2.2.1.cel 1
     have b2 := MF.out.2.2.1.cel 2
     have b3 := MF.out.2.2.1.cel 3
     have b4 := MF.out.2.2.1.cel 4
     have c0 := MF.out.2.2.2.1.cel 0
     have c1 := MF.out.2.2.2.1.cel 1
     have d0 := MF.out.2.2.2.2.1.cel 0
     have d1 := MF.out.2.2.2.2.1.cel 1
     have e0 := MF.out.2.2.2.2.2.cel 0
     have e1 := MF.out.2.2.2.2.2.cel 1
     have MFD : Hid (Below w.heap.size w W9.drew ∧ Box W9.drew (w.heap.size) 40 #[.slice pa v.n pc, .slice ja v.m jc] ∧ Box W9.drew (w.heap.size + 1) 33 #[.int .i64 (fq : Int), .int .i64 fa, .int .i64 fw, .int .i64 lg, .slice (some ⟨bb, bo, none⟩) nb bk] ∧ Box W9.drew (aq) 74 #[.int .i64 (an : Int), .int .i64 aw] ∧ Box W9.drew (sq) 74 #[.int .i64 (sp : Int), .int .i64 wy] ∧ Box W9.drew (eq) 76 #[.int .i64 a, .int .i64 b]) := ⟨MF.out.1.drew, MF.out.2.1.drew, MF.out.2.2.1.drew, MF.out.2.2.2.1.drew, MF.out.2.2.2.2.1.drew, MF.out.2.2.2.2.2.drew⟩
     by_cases hcd : cd = 0
     ·
      subst hcd
      have HA2 : Hid (a = (nextAt v L sp wy).pc ∧ b = (nextAt v L sp wy).sd) := HAB.out rfl
      have HV : Hid (railB v L sp wy an aw = (decide (a = h0) && decide (b = h1))) := by show _ = _; rw [railB, HCD.out, HQE.out, ← HA2.out.1, ← HA2.out.2]; rfl
      by_cases h2 : a = h0
      ·
       by_cases h3 : b = h1
       ·
        subst h2
        subst h3
        have HK2 : Hid (∀ q, q < k + 1 → railB v L (B q 0).toNat (B q 1) (ahP (fq : Int) B q).toNat (ahW fw B q) = true) := fun q hq => by
         by_cases c : q = k
         ·
          subst c
          exact HBK.out.trans (HV.out.trans (by simp))
         ·
          exact HK.out q (by omega)
        go_wp2_with fail
        refine wp_region_held_drew (S := (fun wx : World => wx.cell? ⟨w.heap.size, 0, none⟩ = some (.slice pa v.n pc) ∧ wx.cell? ⟨w.heap.size, 1, none⟩ = some (.slice ja v.m jc) ∧ wx.cell? ⟨w.heap.size + 1, 0, none⟩ = some (.int .i64 (fq : Int)) ∧ wx.cell? ⟨w.heap.size + 1, 1, none⟩ = some (.int .i64 fa) ∧ wx.cell? ⟨w.heap.size + 1, 2, none⟩ = some (.int .i64 fw) ∧ wx.cell? ⟨w.heap.size + 1, 3, none⟩ = some (.int .i64 lg) ∧ wx.cell? ⟨w.heap.size + 1, 4, none⟩ = some (.slice (some ⟨bb, bo, none⟩) nb bk) ∧ wx.cell? ⟨aq, 0, none⟩ = some (.int .i64 (an : Int)) ∧ wx.cell? ⟨aq, 1, none⟩ = some (.int .i64 aw) ∧ wx.cell? ⟨sq, 0, none⟩ = some (.int .i64 (sp : Int)) ∧ wx.cell? ⟨sq, 1, none⟩ = some (.int .i64 wy) ∧ wx.cell? ⟨eq, 0, none⟩ = some (.int .i64 a) ∧ wx.cell? ⟨eq, 1, none⟩ = some (.int .i64 b))) (by kernel_rfl) ?_ (fun hHeld => ?_)
        ·
         exact ⟨a0, a1, b0, b1, b2, b3, b4, c0, c1, d0, d1, e0, e1⟩
        refine tk 0 ?_
        refine tk 1 ?_
        refine tk 2 ?_
        refine tk 3 ?_
        refine tk 4 ?_
        refine tk 5 ?_
        refine tk 6 ?_
        refine tk 7 ?_
        refine tk 8 ?_
        refine rl 9 fun K hK => ?_
        go_simp
        refine (l12head79 (an : Int) (-aw) _).mono ?_
        rintro e wz ⟨he, hb⟩
        rw [HH.out.1, HH.out.2] at he
        subst he
        have MG : Hid (Below w.heap.size w wz ∧ Box wz (w.heap.size) 40 #[.slice pa v.n pc, .slice ja v.m jc] ∧ Box wz (w.heap.size + 1) 33 #[.int .i64 (fq : Int), .int .i64 fa, .int .i64 fw, .int .i64 lg, .slice (some ⟨bb, bo, none⟩) nb bk] ∧ Box wz (aq) 74 #[.int .i64 (an : Int), .int .i64 aw] ∧ Box wz (sq) 74 #[.int .i64 (sp : Int), .int .i64 wy] ∧ Box wz (eq) 76 #[.int .i64 a, .int .i64 b]) := ⟨MFD.out.1.trans (hb.mono MFD.out.1.size), MFD.out.2.1.mono hb nr, MFD.out.2.2.1.mono hb nr, MFD.out.2.2.2.1.mono hb nr, MFD.out.2.2.2.2.1.mono hb nr, MFD.out.2.2.2.2.2.mono hb nr⟩
        clear hb
        go_wp2_with fail
        refine hK.out _ _ ?_ (fun hHeld9 => ?_)
        ·
         exact ⟨MG.out.2.1.cell 0, MG.out.2.1.cell 1, MG.out.2.2.1.cell 0, MG.out.2.2.1.cell 1, MG.out.2.2.1.cell 2, MG.out.2.2.1.cell 3, MG.out.2.2.1.cell 4, MG.out.2.2.2.1.cell 0, MG.out.2.2.2.1.cell 1, MG.out.2.2.2.2.1.cell 0, MG.out.2.2.2.2.1.cell 1, MG.out.2.2.2.2.2.cell 0, MG.out.2.2.2.2.2.cell 1⟩
        clear hK K
        refine tk 10 ?_
        refine tk 11 ?_
        refine wpAnyH_done (by kernel_rfl) ?_ _
        clear a0 a1 b0 b1 b2 b3 b4 c0 c1 d0 d1 e0 e1 hHeld hHeld9 MFD MF
        have a0 := MG.out.2.1.cel 0
        have a1 := MG.out.2.1.cel 1
        have b0 := MG.out.2.2.1.cel 0
        have b1 := MG.out.2.2.1.cel 1
        have b2 := MG.out.2.2.1.cel 2
        have b3 := MG.out.2.2.1.cel 3
        have b4 := MG.out.2.2.1.cel 4
        have c0 := MG.out.2.2.2.1.cel 0
        have c1 := MG.out.2.2.2.1.cel 1
        have d0 := MG.out.2.2.2.2.1.cel 0
        have d1 := MG.out.2.2.2.2.1.cel 1
        have e0 := MG.out.2.2.2.2.2.cel 0
        have e1 := MG.out.2.2.2.2.2.cel 1
        have f0 := MG.out.2.2.2.1.free 0
        have f1 := MG.out.2.2.2.1.free 1
        have T8 : Hid (Below w.heap.size w ((wz.setCell ⟨aq, 0, none⟩ (.int .i64 (sp : Int))).setCell ⟨aq, 1, none⟩ (.int .i64 wy)) ∧ Box ((wz.setCell ⟨aq, 0, none⟩ (.int .i64 (sp : Int))).setCell ⟨aq, 1, none⟩ (.int .i64 wy)) (w.heap.size) 40 #[.slice pa v.n pc, .slice ja v.m jc] ∧ Box ((wz.setCell ⟨aq, 0, none⟩ (.int .i64 (sp : Int))).setCell ⟨aq, 1, none⟩ (.int .i64 wy)) (w.heap.size + 1) 33 #[.int .i64 (fq : Int), .int .i64 fa, .int .i64 fw, .int .i64 lg, .slice (some ⟨bb, bo, none⟩) nb bk] ∧ Box ((wz.setCell ⟨aq, 0, none⟩ (.int .i64 (sp : Int))).setCell ⟨aq, 1, none⟩ (.int .i64 wy)) (aq) 74 #[.int .i64 (ahP (fq : Int) B (k + 1)), .int .i64 (ahW fw B (k + 1))]) := by
         refine ⟨(MG.out.1.setCell HAQ.out.1 _).setCell HAQ.out.1 _, (MG.out.2.1.other HAQ.out.2.1 _).other HAQ.out.2.1 _, (MG.out.2.2.1.other HAQ.out.2.2 _).other HAQ.out.2.2 _, ?_⟩
         have h9 := (MG.out.2.2.2.1.set 0 (.int .i64 (sp : Int))).set 1 (.int .i64 wy)
         rw [show ahP (fq : Int) B (k + 1) = (sp : Int) from HSP.out, show ahW fw B (k + 1) = wy from HWY.out]
         exact h9
        clear MG
        go_wp2_with fail
        clear a0 a1 b0 b1 b2 b3 b4 c0 c1 d0 d1 e0 e1 f0 f1
        go_roundw
        case rel => exact ⟨k + 1, by omega, by go_num, HK2, T8⟩
        case measure => simp [intOf]; omega
       ·
        subst h2
        have h3' : (b == h1) = false := by simpa using h3
        have HW : Hid (railB v L sp wy an aw = false) := HV.out.trans (by rw [decide_eq_false h3, Bool.and_false])
        go_wp2_with fail
        refine wp_region_held_drew (S := (fun wx : World => wx.cell? ⟨w.heap.size, 0, none⟩ = some (.slice pa v.n pc) ∧ wx.cell? ⟨w.heap.size, 1, none⟩ = some (.slice ja v.m jc) ∧ wx.cell? ⟨w.heap.size + 1, 0, none⟩ = some (.int .i64 (fq : Int)) ∧ wx.cell? ⟨w.heap.size + 1, 1, none⟩ = some (.int .i64 fa) ∧ wx.cell? ⟨w.heap.size + 1, 2, none⟩ = some (.int .i64 fw) ∧ wx.cell? ⟨w.heap.size + 1, 3, none⟩ = some (.int .i64 lg) ∧ wx.cell? ⟨w.heap.size + 1, 4, none⟩ = some (.slice (some ⟨bb, bo, none⟩) nb bk) ∧ wx.cell? ⟨aq, 0, none⟩ = some (.int .i64 (an : Int)) ∧ wx.cell? ⟨aq, 1, none⟩ = some (.int .i64 aw) ∧ wx.cell? ⟨sq, 0, none⟩ = some (.int .i64 (sp : Int)) ∧ wx.cell? ⟨sq, 1, none⟩ = some (.int .i64 wy) ∧ wx.cell? ⟨eq, 0, none⟩ = some (.int .i64 a) ∧ wx.cell? ⟨eq, 1, none⟩ = some (.int .i64 b))) (by kernel_rfl) ?_ (fun hHeld => ?_)
        ·
         exact ⟨a0, a1, b0, b1, b2, b3, b4, c0, c1, d0, d1, e0, e1⟩
        refine tk 0 ?_
        refine tk 1 ?_
        refine tk 2 ?_
        refine tk 3 ?_
        refine tk 4 ?_
        refine tk 5 ?_
        refine tk 6 ?_
        refine tk 7 ?_
        refine tk 8 ?_
        refine rl 9 fun K hK => ?_
        go_simp
        refine (l12head79 (an : Int) (-aw) _).mono ?_
        rintro e wz ⟨he, hb⟩
        rw [HH.out.1, HH.out.2] at he
        subst he
        have MG : Hid (Below w.heap.size w wz ∧ Box wz (w.heap.size) 40 #[.slice pa v.n pc, .slice ja v.m jc] ∧ Box wz (w.heap.size + 1) 33 #[.int .i64 (fq : Int), .int .i64 fa, .int .i64 fw, .int .i64 lg, .slice (some ⟨bb, bo, none⟩) nb bk] ∧ Box wz (aq) 74 #[.int .i64 (an : Int), .int .i64 aw] ∧ Box wz (sq) 74 #[.int .i64 (sp : Int), .int .i64 wy] ∧ Box wz (eq) 76 #[.int .i64 a, .int .i64 b]) := ⟨MFD.out.1.trans (hb.mono MFD.out.1.size), MFD.out.2.1.mono hb nr, MFD.out.2.2.1.mono hb nr, MFD.out.2.2.2.1.mono hb nr, MFD.out.2.2.2.2.1.mono hb nr, MFD.out.2.2.2.2.2.mono hb nr⟩
        clear hb
        go_wp2_with fail
        refine hK.out _ _ ?_ (fun hHeld9 => ?_)
        ·
         exact ⟨MG.out.2.1.cell 0, MG.out.2.1.cell 1, MG.out.2.2.1.cell 0, MG.out.2.2.1.cell 1, MG.out.2.2.1.cell 2, MG.out.2.2.1.cell 3, MG.out.2.2.1.cell 4, MG.out.2.2.2.1.cell 0, MG.out.2.2.2.1.cell 1, MG.out.2.2.2.2.1.cell 0, MG.out.2.2.2.2.1.cell 1, MG.out.2.2.2.2.2.cell 0, MG.out.2.2.2.2.2.cell 1⟩
        clear hK K
        refine tk 10 ?_
        refine tk 11 ?_
        refine wpAnyH_done (by kernel_rfl) ?_ _
        have HT : Hid (R = false) := HR.out.symm.trans (allT_no hlt (HBK.out.trans (HW.out)))
        have HE : Hid (Below w.heap.size w wz) := MG.out.1
        clear a0 a1 b0 b1 b2 b3 b4 c0 c1 d0 d1 e0 e1
        go_wp2_with fail
        go_ret
        exact ⟨by rw [HT.out]; rfl, HE.out⟩
      ·
       have h2' : (a == h0) = false := by simpa using h2
       have HW : Hid (railB v L sp wy an aw = false) := HV.out.trans (by rw [decide_eq_false h2, Bool.false_and])
       go_wp2_with fail
       refine wp_region_held_drew (S := (fun wx : World => wx.cell? ⟨w.heap.size, 0, none⟩ = some (.slice pa v.n pc) ∧ wx.cell? ⟨w.heap.size, 1, none⟩ = some (.slice ja v.m jc) ∧ wx.cell? ⟨w.heap.size + 1, 0, none⟩ = some (.int .i64 (fq : Int)) ∧ wx.cell? ⟨w.heap.size + 1, 1, none⟩ = some (.int .i64 fa) ∧ wx.cell? ⟨w.heap.size + 1, 2, none⟩ = some (.int .i64 fw) ∧ wx.cell? ⟨w.heap.size + 1, 3, none⟩ = some (.int .i64 lg) ∧ wx.cell? ⟨w.heap.size + 1, 4, none⟩ = some (.slice (some ⟨bb, bo, none⟩) nb bk) ∧ wx.cell? ⟨aq, 0, none⟩ = some (.int .i64 (an : Int)) ∧ wx.cell? ⟨aq, 1, none⟩ = some (.int .i64 aw) ∧ wx.cell? ⟨sq, 0, none⟩ = some (.int .i64 (sp : Int)) ∧ wx.cell? ⟨sq, 1, none⟩ = some (.int .i64 wy) ∧ wx.cell? ⟨eq, 0, none⟩ = some (.int .i64 a) ∧ wx.cell? ⟨eq, 1, none⟩ = some (.int .i64 b))) (by kernel_rfl) ?_ (fun hHeld => ?_)
       ·
        exact ⟨a0, a1, b0, b1, b2, b3, b4, c0, c1, d0, d1, e0, e1⟩
       refine tk 0 ?_
       refine tk 1 ?_
       refine tk 2 ?_
       refine tk 3 ?_
       refine tk 4 ?_
       refine tk 5 ?_
       refine tk 6 ?_
       refine tk 7 ?_
       refine tk 8 ?_
       refine rl 9 fun K hK => ?_
       go_simp
       refine (l12head79 (an : Int) (-aw) _).mono ?_
       rintro e wz ⟨he, hb⟩
       rw [HH.out.1, HH.out.2] at he
       subst he
       have MG : Hid (Below w.heap.size w wz ∧ Box wz (w.heap.size) 40 #[.slice pa v.n pc, .slice ja v.m jc] ∧ Box wz (w.heap.size + 1) 33 #[.int .i64 (fq : Int), .int .i64 fa, .int .i64 fw, .int .i64 lg, .slice (some ⟨bb, bo, none⟩) nb bk] ∧ Box wz (aq) 74 #[.int .i64 (an : Int), .int .i64 aw] ∧ Box wz (sq) 74 #[.int .i64 (sp : Int), .int .i64 wy] ∧ Box wz (eq) 76 #[.int .i64 a, .int .i64 b]) := ⟨MFD.out.1.trans (hb.mono MFD.out.1.size), MFD.out.2.1.mono hb nr, MFD.out.2.2.1.mono hb nr, MFD.out.2.2.2.1.mono hb nr, MFD.out.2.2.2.2.1.mono hb nr, MFD.out.2.2.2.2.2.mono hb nr⟩
       clear hb
       go_wp2_with fail
       refine hK.out _ _ ?_ (fun hHeld9 => ?_)
       ·
        exact ⟨MG.out.2.1.cell 0, MG.out.2.1.cell 1, MG.out.2.2.1.cell 0, MG.out.2.2.1.cell 1, MG.out.2.2.1.cell 2, MG.out.2.2.1.cell 3, MG.out.2.2.1.cell 4, MG.out.2.2.2.1.cell 0, MG.out.2.2.2.1.cell 1, MG.out.2.2.2.2.1.cell 0, MG.out.2.2.2.2.1.cell 1, MG.out.2.2.2.2.2.cell 0, MG.out.2.2.2.2.2.cell 1⟩
       clear hK K
       refine tk 10 ?_
       refine tk 11 ?_
       refine wpAnyH_done (by kernel_rfl) ?_ _
       have HT : Hid (R = false) := HR.out.symm.trans (allT_no hlt (HBK.out.trans (HW.out)))
       have HE : Hid (Below w.heap.size w wz) := MG.out.1
       clear a0 a1 b0 b1 b2 b3 b4 c0 c1 d0 d1 e0 e1
       go_wp2_with fail
       go_ret
       exact ⟨by rw [HT.out]; rfl, HE.out⟩
     ·
      have hcd' : (cd != 0) = true := by simpa using hcd
      have HW : Hid (railB v L sp wy an aw = false) := by show _ = _; rw [railB, HCD.out, decide_eq_false hcd, Bool.false_and]
      go_wp2_with fail
      refine wp_region_held_drew (S := (fun wx : World => wx.cell? ⟨w.heap.size, 0, none⟩ = some (.slice pa v.n pc) ∧ wx.cell? ⟨w.heap.size, 1, none⟩ = some (.slice ja v.m jc) ∧ wx.cell? ⟨w.heap.size + 1, 0, none⟩ = some (.int .i64 (fq : Int)) ∧ wx.cell? ⟨w.heap.size + 1, 1, none⟩ = some (.int .i64 fa) ∧ wx.cell? ⟨w.heap.size + 1, 2, none⟩ = some (.int .i64 fw) ∧ wx.cell? ⟨w.heap.size + 1, 3, none⟩ = some (.int .i64 lg) ∧ wx.cell? ⟨w.heap.size + 1, 4, none⟩ = some (.slice (some ⟨bb, bo, none⟩) nb bk) ∧ wx.cell? ⟨aq, 0, none⟩ = some (.int .i64 (an : Int)) ∧ wx.cell? ⟨aq, 1, none⟩ = some (.int .i64 aw) ∧ wx.cell? ⟨sq, 0, none⟩ = some (.int .i64 (sp : Int)) ∧ wx.cell? ⟨sq, 1, none⟩ = some (.int .i64 wy) ∧ wx.cell? ⟨eq, 0, none⟩ = some (.int .i64 a) ∧ wx.cell? ⟨eq, 1, none⟩ = some (.int .i64 b))) (by kernel_rfl) ?_ (fun hHeld => ?_)
      ·
       exact ⟨a0, a1, b0, b1, b2, b3, b4, c0, c1, d0, d1, e0, e1⟩
      refine tk 0 ?_
      refine tk 1 ?_
      refine tk 2 ?_
      refine tf 3 ?_
      refine tf 4 ?_
      refine tf 5 ?_
      refine tf 6 ?_
      refine tf 7 ?_
      refine tf 8 ?_
      refine tf 9 ?_
      refine tf 10 ?_
      refine tk 11 ?_
      refine wpAnyH_done (by kernel_rfl) ?_ _
      have HT : Hid (R = false) := HR.out.symm.trans (allT_no hlt (HBK.out.trans (HW.out)))
      have HE : Hid (Below w.heap.size w W9.drew) := MFD.out.1
      clear a0 a1 b0 b1 b2 b3 b4 c0 c1 d0 d1 e0 e1
      go_wp2_with fail
      go_ret
      exact ⟨by rw [HT.out]; rfl, HE.out⟩
   ·
    have MA12 : Hid ((Below w.heap.size w (VD.alloc (.cells #[.int .i64 0, .int .i64 0] 76)) ∧ Box (VD.alloc (.cells #[.int .i64 0, .int .i64 0] 76)) (w.heap.size) 40 #[.slice pa v.n pc, .slice ja v.m jc] ∧ Box (VD.alloc (.cells #[.int .i64 0, .int .i64 0] 76)) (w.heap.size + 1) 33 #[.int .i64 (fq : Int), .int .i64 fa, .int .i64 fw, .int .i64 lg, .slice (some ⟨bb, bo, none⟩) nb bk] ∧ Box (VD.alloc (.cells #[.int .i64 0, .int .i64 0] 76)) (aq) 74 #[.int .i64 (an : Int), .int .i64 aw] ∧ Box (VD.alloc (.cells #[.int .i64 0, .int .i64 0] 76)) (sq) 74 #[.int .i64 (sp : Int), .int .i64 wy] ∧ Box (VD.alloc (.cells #[.int .i64 0, .int .i64 0] 76)) VD.heap.size 76 #[.int .i64 0, .int .i64 0]) ∧ w.heap.size ≤ VD.heap.size) := ⟨⟨MD.out.1.alloc MD.out.1.size _, MD.out.2.1.alloc _, MD.out.2.2.1.alloc _, MD.out.2.2.2.1.alloc _, MD.out.2.2.2.2.alloc _, Box.new _ _ _⟩, MD.out.1.size⟩
    clear MD
    go_simp
    refine hK.out _ _ ?_ (fun hHeld => ?_)
    ·
     exact ⟨MA12.out.1.2.1.cell 0, MA12.out.1.2.1.cell 1, MA12.out.1.2.2.1.cell 0, MA12.out.1.2.2.1.cell 1, MA12.out.1.2.2.1.cell 2, MA12.out.1.2.2.1.cell 3, MA12.out.1.2.2.1.cell 4, MA12.out.1.2.2.2.1.cell 0, MA12.out.1.2.2.2.1.cell 1, MA12.out.1.2.2.2.2.1.cell 0, MA12.out.1.2.2.2.2.1.cell 1⟩
    clear hK K
    generalize VD.alloc (.cells #[.int .i64 0, .int .i64 0] 76) = wh11 at MA12 ⊢
    generalize VD.heap.size = eq at MA12 ⊢
    have HEQ : Hid (w.heap.size ≤ eq) := MA12.out.2
    have MA12x : Hid (Below w.heap.size w wh11 ∧ Box wh11 (w.heap.size) 40 #[.slice pa v.n pc, .slice ja v.m jc] ∧ Box wh11 (w.heap.size + 1) 33 #[.int .i64 (fq : Int), .int .i64 fa, .int .i64 fw, .int .i64 lg, .slice (some ⟨bb, bo, none⟩) nb bk] ∧ Box wh11 (aq) 74 #[.int .i64 (an : Int), .int .i64 aw] ∧ Box wh11 (sq) 74 #[.int .i64 (sp : Int), .int .i64 wy] ∧ Box wh11 (eq) 76 #[.int .i64 0, .int .i64 0]) := MA12.out.1
    clear MA12
    refine rl 6 fun K hK => ?_
    go_simp
    refine (l12head79 (sp : Int) wy _).mono ?_
    rintro e wh13 ⟨rfl, hb⟩
    have MA14 : Hid (Below w.heap.size w wh13 ∧ Box wh13 (w.heap.size) 40 #[.slice pa v.n pc, .slice ja v.m jc] ∧ Box wh13 (w.heap.size + 1) 33 #[.int .i64 (fq : Int), .int .i64 fa, .int .i64 fw, .int .i64 lg, .slice (some ⟨bb, bo, none⟩) nb bk] ∧ Box wh13 (aq) 74 #[.int .i64 (an : Int), .int .i64 aw] ∧ Box wh13 (sq) 74 #[.int .i64 (sp : Int), .int .i64 wy] ∧ Box wh13 (eq) 76 #[.int .i64 0, .int .i64 0]) := ⟨MA12x.out.1.trans (hb.mono MA12x.out.1.size), MA12x.out.2.1.mono hb nr, MA12x.out.2.2.1.mono hb nr, MA12x.out.2.2.2.1.mono hb nr, MA12x.out.2.2.2.2.1.mono hb nr, MA12x.out.2.2.2.2.2.mono hb nr⟩
    clear hb MA12x
    go_wp2_with fail
    refine hK.out _ _ ?_ (fun hHeld => ?_)
    ·
     exact ⟨MA14.out.2.1.cell 0, MA14.out.2.1.cell 1, MA14.out.2.2.1.cell 0, MA14.out.2.2.1.cell 1, MA14.out.2.2.1.cell 2, MA14.out.2.2.1.cell 3, MA14.out.2.2.1.cell 4, MA14.out.2.2.2.1.cell 0, MA14.out.2.2.2.1.cell 1, MA14.out.2.2.2.2.1.cell 0, MA14.out.2.2.2.2.1.cell 1⟩
    clear hK K
    refine rl 7 fun K hK => ?_
    go_simp
    refine (over77 H.out.1 pa pc ja jc sp wy la lc L _ hspn (H.out.2.1.mono nr MA14.out.1 nr) (H.out.2.2.2.1.mono nr MA14.out.1 nr) H.out.2.2.2.2.1).mono ?_
    rintro e wh15 ⟨a, b, z, he, hab, hb⟩
    have HAB : Hid (cd = 0 → a = (nextAt v L sp wy).pc ∧ b = (nextAt v L sp wy).sd) := by rw [HCD.out] at hab; exact hab
    rw [HCD.out] at he
    subst he
    have MA16 : Hid (Below w.heap.size w wh15 ∧ Box wh15 (w.heap.size) 40 #[.slice pa v.n pc, .slice ja v.m jc] ∧ Box wh15 (w.heap.size + 1) 33 #[.int .i64 (fq : Int), .int .i64 fa, .int .i64 fw, .int .i64 lg, .slice (some ⟨bb, bo, none⟩) nb bk] ∧ Box wh15 (aq) 74 #[.int .i64 (an : Int), .int .i64 aw] ∧ Box wh15 (sq) 74 #[.int .i64 (sp : Int), .int .i64 wy] ∧ Box wh15 (eq) 76 #[.int .i64 0, .int .i64 0]) := ⟨MA14.out.1.trans (hb.mono MA14.out.1.size), MA14.out.2.1.mono hb nr, MA14.out.2.2.1.mono hb nr, MA14.out.2.2.2.1.mono hb nr, MA14.out.2.2.2.2.1.mono hb nr, MA14.out.2.2.2.2.2.mono hb nr⟩
    clear hb MA14 hab
    go_wp2_with fail
    refine hK.out _ _ ?_ (fun hHeld => ?_)
    ·
     exact ⟨MA16.out.2.1.cell 0, MA16.out.2.1.cell 1, MA16.out.2.2.1.cell 0, MA16.out.2.2.1.cell 1, MA16.out.2.2.1.cell 2, MA16.out.2.2.1.cell 3, MA16.out.2.2.1.cell 4, MA16.out.2.2.2.1.cell 0, MA16.out.2.2.2.1.cell 1, MA16.out.2.2.2.2.1.cell 0, MA16.out.2.2.2.2.1.cell 1⟩
    clear hK K
    refine tk 8 ?_
    refine tk 9 ?_
    refine tk 10 ?_
    refine tk 11 ?_
    have z0 := MA16.out.2.2.2.2.2.cel 0
    have z1 := MA16.out.2.2.2.2.2.cel 1
    have q0 := MA16.out.2.2.2.2.2.free 0
    have q1 := MA16.out.2.2.2.2.2.free 1
    have HNQ : Hid (w.heap.size ≠ eq ∧ w.heap.size + 1 ≠ eq ∧ aq ≠ eq ∧ sq ≠ eq) := ⟨box_ne MA16.out.2.1 MA16.out.2.2.2.2.2 (by decide), box_ne MA16.out.2.2.1 MA16.out.2.2.2.2.2 (by decide), box_ne MA16.out.2.2.2.1 MA16.out.2.2.2.2.2 (by decide), box_ne MA16.out.2.2.2.2.1 MA16.out.2.2.2.2.2 (by decide)⟩
    have MF : Hid (Below w.heap.size w ((wh15.setCell ⟨eq, 0, none⟩ (.int .i64 a)).setCell ⟨eq, 1, none⟩ (.int .i64 b)) ∧ Box ((wh15.setCell ⟨eq, 0, none⟩ (.int .i64 a)).setCell ⟨eq, 1, none⟩ (.int .i64 b)) (w.heap.size) 40 #[.slice pa v.n pc, .slice ja v.m jc] ∧ Box ((wh15.setCell ⟨eq, 0, none⟩ (.int .i64 a)).setCell ⟨eq, 1, none⟩ (.int .i64 b)) (w.heap.size + 1) 33 #[.int .i64 (fq : Int), .int .i64 fa, .int .i64 fw, .int .i64 lg, .slice (some ⟨bb, bo, none⟩) nb bk] ∧ Box ((wh15.setCell ⟨eq, 0, none⟩ (.int .i64 a)).setCell ⟨eq, 1, none⟩ (.int .i64 b)) (aq) 74 #[.int .i64 (an : Int), .int .i64 aw] ∧ Box ((wh15.setCell ⟨eq, 0, none⟩ (.int .i64 a)).setCell ⟨eq, 1, none⟩ (.int .i64 b)) (sq) 74 #[.int .i64 (sp : Int), .int .i64 wy] ∧ Box ((wh15.setCell ⟨eq, 0, none⟩ (.int .i64 a)).setCell ⟨eq, 1, none⟩ (.int .i64 b)) (eq) 76 #[.int .i64 a, .int .i64 b]) := ⟨(MA16.out.1.setCell HEQ.out _).setCell HEQ.out _, (MA16.out.2.1.other HNQ.out.1 _).other HNQ.out.1 _, (MA16.out.2.2.1.other HNQ.out.2.1 _).other HNQ.out.2.1 _, (MA16.out.2.2.2.1.other HNQ.out.2.2.1 _).other HNQ.out.2.2.1 _, (MA16.out.2.2.2.2.1.other HNQ.out.2.2.2 _).other HNQ.out.2.2.2 _, by
     have h9 := (MA16.out.2.2.2.2.2.set 0 (.int .i64 a)).set 1 (.int .i64 b)
     exact h9⟩
    clear MA16
    refine rl 13 fun K hK => ?_
    go_simp
    refine hK.out _ _ ?_ (fun hHeld => ?_)
    ·
     exact ⟨MF.out.2.1.cell 0, MF.out.2.1.cell 1, MF.out.2.2.1.cell 0, MF.out.2.2.1.cell 1, MF.out.2.2.1.cell 2, MF.out.2.2.1.cell 3, MF.out.2.2.1.cell 4, MF.out.2.2.2.1.cell 0, MF.out.2.2.2.1.cell 1, MF.out.2.2.2.2.1.cell 0, MF.out.2.2.2.2.1.cell 1⟩
    clear hK K
    clear z0 z1 q0 q1
    refine tk 14 ?_
    refine tk 15 ?_
    refine wpAnyH_done (by kernel_rfl) ?_ _
    clear hHeld
    generalize ((wh15.setCell ⟨eq, 0, none⟩ (.int .i64 a)).setCell ⟨eq, 1, none⟩ (.int .i64 b)) = W9 at MF ⊢
    have a0 := MF.out.2.1.cel 0
    have a1 := MF.out.2.1.cel 1
    have b0 := MF.out.2.2.1.cel 0
    have b1 := MF.out.2.2.1.cel 1
    have b2 := MF.out.2.2.1.cel 2
    have b3 := MF.out.2.2.1.cel 3
    have b4 := MF.out.2.2.1.cel 4
    have c0 := MF.out.2.2.2.1.cel 0
    have c1 := MF.out.2.2.2.1.cel 1
    have d0 := MF.out.2.2.2.2.1.cel 0
    have d1 := MF.out.2.2.2.2.1.cel 1
    have e0 := MF.out.2.2.2.2.2.cel 0
    have e1 := MF.out.2.2.2.2.2.cel 1
    have MFD : Hid (Below w.heap.size w W9.drew ∧ Box W9.drew (w.heap.size) 40 #[.slice pa v.n pc, .slice ja v.m jc] ∧ Box W9.drew (w.heap.size + 1) 33 #[.int .i64 (fq : Int), .int .i64 fa, .int .i64 fw, .int .i64 lg, .slice (some ⟨bb, bo, none⟩) nb bk] ∧ Box W9.drew (aq) 74 #[.int .i64 (an : Int), .int .i64 aw] ∧ Box W9.drew (sq) 74 #[.int .i64 (sp : Int), .int .i64 wy] ∧ Box W9.drew (eq) 76 #[.int .i64 a, .int .i64 b]) := ⟨MF.out.1.drew, MF.out.2.1.drew, MF.out.2.2.1.drew, MF.out.2.2.2.1.drew, MF.out.2.2.2.2.1.drew, MF.out.2.2.2.2.2.drew⟩
    by_cases hcd : cd = 0
    ·
     subst hcd
     have HA2 : Hid (a = (nextAt v L sp wy).pc ∧ b = (nextAt v L sp wy).sd) := HAB.out rfl
     have HV : Hid (railB v L sp wy an aw = (decide (a = h0) && decide (b = h1))) := by show _ = _; rw [railB, HCD.out, HQE.out, ← HA2.out.1, ← HA2.out.2]; rfl
     by_cases h2 : a = h0
     ·
      by_cases h3 : b = h1
      ·
       subst h2
       subst h3
       have HK2 : Hid (∀ q, q < k + 1 → railB v L (B q 0).toNat (B q 1) (ahP (fq : Int) B q).toNat (ahW fw B q) = true) := fun q hq => by
        by_cases c : q = k
        ·
         subst c
         exact HBK.out.trans (HV.out.trans (by simp))
        ·
         exact HK.out q (by omega)
       go_wp2_with fail
       refine wp_region_held_drew (S := (fun wx : World => wx.cell? ⟨w.heap.size, 0, none⟩ = some (.slice pa v.n pc) ∧ wx.cell? ⟨w.heap.size, 1, none⟩ = some (.slice ja v.m jc) ∧ wx.cell? ⟨w.heap.size + 1, 0, none⟩ = some (.int .i64 (fq : Int)) ∧ wx.cell? ⟨w.heap.size + 1, 1, none⟩ = some (.int .i64 fa) ∧ wx.cell? ⟨w.heap.size + 1, 2, none⟩ = some (.int .i64 fw) ∧ wx.cell? ⟨w.heap.size + 1, 3, none⟩ = some (.int .i64 lg) ∧ wx.cell? ⟨w.heap.size + 1, 4, none⟩ = some (.slice (some ⟨bb, bo, none⟩) nb bk) ∧ wx.cell? ⟨aq, 0, none⟩ = some (.int .i64 (an : Int)) ∧ wx.cell? ⟨aq, 1, none⟩ = some (.int .i64 aw) ∧ wx.cell? ⟨sq, 0, none⟩ = some (.int .i64 (sp : Int)) ∧ wx.cell? ⟨sq, 1, none⟩ = some (.int .i64 wy) ∧ wx.cell? ⟨eq, 0, none⟩ = some (.int .i64 a) ∧ wx.cell? ⟨eq, 1, none⟩ = some (.int .i64 b))) (by kernel_rfl) ?_ (fun hHeld => ?_)
       ·
        exact ⟨a0, a1, b0, b1, b2, b3, b4, c0, c1, d0, d1, e0, e1⟩
       refine tk 0 ?_
       refine tk 1 ?_
       refine tk 2 ?_
       refine tk 3 ?_
       refine tk 4 ?_
       refine tk 5 ?_
       refine tk 6 ?_
       refine tk 7 ?_
       refine tk 8 ?_
       refine rl 9 fun K hK => ?_
       go_simp
       refine (l12head79 (an : Int) (-aw) _).mono ?_
       rintro e wz ⟨he, hb⟩
       rw [HH.out.1, HH.out.2] at he
       subst he
       have MG : Hid (Below w.heap.size w wz ∧ Box wz (w.heap.size) 40 #[.slice pa v.n pc, .slice ja v.m jc] ∧ Box wz (w.heap.size + 1) 33 #[.int .i64 (fq : Int), .int .i64 fa, .int .i64 fw, .int .i64 lg, .slice (some ⟨bb, bo, none⟩) nb bk] ∧ Box wz (aq) 74 #[.int .i64 (an : Int), .int .i64 aw] ∧ Box wz (sq) 74 #[.int .i64 (sp : Int), .int .i64 wy] ∧ Box wz (eq) 76 #[.int .i64 a, .int .i64 b]) := ⟨MFD.out.1.trans (hb.mono MFD.out.1.size), MFD.out.2.1.mono hb nr, MFD.out.2.2.1.mono hb nr, MFD.out.2.2.2.1.mono hb nr, MFD.out.2.2.2.2.1.mono hb nr, MFD.out.2.2.2.2.2.mono hb nr⟩
       clear hb
       go_wp2_with fail
       refine hK.out _ _ ?_ (fun hHeld9 => ?_)
       ·
        exact ⟨MG.out.2.1.cell 0, MG.out.2.1.cell 1, MG.out.2.2.1.cell 0, MG.out.2.2.1.cell 1, MG.out.2.2.1.cell 2, MG.out.2.2.1.cell 3, MG.out.2.2.1.cell 4, MG.out.2.2.2.1.cell 0, MG.out.2.2.2.1.cell 1, MG.out.2.2.2.2.1.cell 0, MG.out.2.2.2.2.1.cell 1, MG.out.2.2.2.2.2.cell 0, MG.out.2.2.2.2.2.cell 1⟩
       clear hK K
       refine tk 10 ?_
       refine tk 11 ?_
       refine wpAnyH_done (by kernel_rfl) ?_ _
       clear a0 a1 b0 b1 b2 b3 b4 c0 c1 d0 d1 e0 e1 hHeld hHeld9 MFD MF
       have a0 := MG.out.2.1.cel 0
       have a1 := MG.out.2.1.cel 1
       have b0 := MG.out.2.2.1.cel 0
       have b1 := MG.out.2.2.1.cel 1
       have b2 := MG.out.2.2.1.cel 2
       have b3 := MG.out.2.2.1.cel 3
       have b4 := MG.out.2.2.1.cel 4
       have c0 := MG.out.2.2.2.1.cel 0
       have c1 := MG.out.2.2.2.1.cel 1
       have d0 := MG.out.2.2.2.2.1.cel 0
       have d1 := MG.out.2.2.2.2.1.cel 1
       have e0 := MG.out.2.2.2.2.2.cel 0
       have e1 := MG.out.2.2.2.2.2.cel 1
       have f0 := MG.out.2.2.2.1.free 0
       have f1 := MG.out.2.2.2.1.free 1
       have T8 : Hid (Below w.heap.size w ((wz.setCell ⟨aq, 0, none⟩ (.int .i64 (sp : Int))).setCell ⟨aq, 1, none⟩ (.int .i64 wy)) ∧ Box ((wz.setCell ⟨aq, 0, none⟩ (.int .i64 (sp : Int))).setCell ⟨aq, 1, none⟩ (.int .i64 wy)) (w.heap.size) 40 #[.slice pa v.n pc, .slice ja v.m jc] ∧ Box ((wz.setCell ⟨aq, 0, none⟩ (.int .i64 (sp : Int))).setCell ⟨aq, 1, none⟩ (.int .i64 wy)) (w.heap.size + 1) 33 #[.int .i64 (fq : Int), .int .i64 fa, .int .i64 fw, .int .i64 lg, .slice (some ⟨bb, bo, none⟩) nb bk] ∧ Box ((wz.setCell ⟨aq, 0, none⟩ (.int .i64 (sp : Int))).setCell ⟨aq, 1, none⟩ (.int .i64 wy)) (aq) 74 #[.int .i64 (ahP (fq : Int) B (k + 1)), .int .i64 (ahW fw B (k + 1))]) := by
        refine ⟨(MG.out.1.setCell HAQ.out.1 _).setCell HAQ.out.1 _, (MG.out.2.1.other HAQ.out.2.1 _).other HAQ.out.2.1 _, (MG.out.2.2.1.other HAQ.out.2.2 _).other HAQ.out.2.2 _, ?_⟩
        have h9 := (MG.out.2.2.2.1.set 0 (.int .i64 (sp : Int))).set 1 (.int .i64 wy)
        rw [show ahP (fq : Int) B (k + 1) = (sp : Int) from HSP.out, show ahW fw B (k + 1) = wy from HWY.out]
        exact h9
       clear MG
       go_wp2_with fail
       clear a0 a1 b0 b1 b2 b3 b4 c0 c1 d0 d1 e0 e1 f0 f1
       go_roundw
       case rel => exact ⟨k + 1, by omega, by go_num, HK2, T8⟩
       case measure => simp [intOf]; omega
      ·
       subst h2
       have h3' : (b == h1) = false := by simpa using h3
       have HW : Hid (railB v L sp wy an aw = false) := HV.out.trans (by rw [decide_eq_false h3, Bool.and_false])
       go_wp2_with fail
       refine wp_region_held_drew (S := (fun wx : World => wx.cell? ⟨w.heap.size, 0, none⟩ = some (.slice pa v.n pc) ∧ wx.cell? ⟨w.heap.size, 1, none⟩ = some (.slice ja v.m jc) ∧ wx.cell? ⟨w.heap.size + 1, 0, none⟩ = some (.int .i64 (fq : Int)) ∧ wx.cell? ⟨w.heap.size + 1, 1, none⟩ = some (.int .i64 fa) ∧ wx.cell? ⟨w.heap.size + 1, 2, none⟩ = some (.int .i64 fw) ∧ wx.cell? ⟨w.heap.size + 1, 3, none⟩ = some (.int .i64 lg) ∧ wx.cell? ⟨w.heap.size + 1, 4, none⟩ = some (.slice (some ⟨bb, bo, none⟩) nb bk) ∧ wx.cell? ⟨aq, 0, none⟩ = some (.int .i64 (an : Int)) ∧ wx.cell? ⟨aq, 1, none⟩ = some (.int .i64 aw) ∧ wx.cell? ⟨sq, 0, none⟩ = some (.int .i64 (sp : Int)) ∧ wx.cell? ⟨sq, 1, none⟩ = some (.int .i64 wy) ∧ wx.cell? ⟨eq, 0, none⟩ = some (.int .i64 a) ∧ wx.cell? ⟨eq, 1, none⟩ = some (.int .i64 b))) (by kernel_rfl) ?_ (fun hHeld => ?_)
       ·
        exact ⟨a0, a1, b0, b1, b2, b3, b4, c0, c1, d0, d1, e0, e1⟩
       refine tk 0 ?_
       refine tk 1 ?_
       refine tk 2 ?_
       refine tk 3 ?_
       refine tk 4 ?_
       refine tk 5 ?_
       refine tk 6 ?_
       refine tk 7 ?_
       refine tk 8 ?_
       refine rl 9 fun K hK => ?_
       go_simp
       refine (l12head79 (an : Int) (-aw) _).mono ?_
       rintro e wz ⟨he, hb⟩
       rw [HH.out.1, HH.out.2] at he
       subst he
       have MG : Hid (Below w.heap.size w wz ∧ Box wz (w.heap.size) 40 #[.slice pa v.n pc, .slice ja v.m jc] ∧ Box wz (w.heap.size + 1) 33 #[.int .i64 (fq : Int), .int .i64 fa, .int .i64 fw, .int .i64 lg, .slice (some ⟨bb, bo, none⟩) nb bk] ∧ Box wz (aq) 74 #[.int .i64 (an : Int), .int .i64 aw] ∧ Box wz (sq) 74 #[.int .i64 (sp : Int), .int .i64 wy] ∧ Box wz (eq) 76 #[.int .i64 a, .int .i64 b]) := ⟨MFD.out.1.trans (hb.mono MFD.out.1.size), MFD.out.2.1.mono hb nr, MFD.out.2.2.1.mono hb nr, MFD.out.2.2.2.1.mono hb nr, MFD.out.2.2.2.2.1.mono hb nr, MFD.out.2.2.2.2.2.mono hb nr⟩
       clear hb
       go_wp2_with fail
       refine hK.out _ _ ?_ (fun hHeld9 => ?_)
       ·
        exact ⟨MG.out.2.1.cell 0, MG.out.2.1.cell 1, MG.out.2.2.1.cell 0, MG.out.2.2.1.cell 1, MG.out.2.2.1.cell 2, MG.out.2.2.1.cell 3, MG.out.2.2.1.cell 4, MG.out.2.2.2.1.cell 0, MG.out.2.2.2.1.cell 1, MG.out.2.2.2.2.1.cell 0, MG.out.2.2.2.2.1.cell 1, MG.out.2.2.2.2.2.cell 0, MG.out.2.2.2.2.2.cell 1⟩
       clear hK K
       refine tk 10 ?_
       refine tk 11 ?_
       refine wpAnyH_done (by kernel_rfl) ?_ _
       have HT : Hid (R = false) := HR.out.symm.trans (allT_no hlt (HBK.out.trans (HW.out)))
       have HE : Hid (Below w.heap.size w wz) := MG.out.1
       clear a0 a1 b0 b1 b2 b3 b4 c0 c1 d0 d1 e0 e1
       go_wp2_with fail
       go_ret
       exact ⟨by rw [HT.out]; rfl, HE.out⟩
     ·
      have h2' : (a == h0) = false := by simpa using h2
      have HW : Hid (railB v L sp wy an aw = false) := HV.out.trans (by rw [decide_eq_false h2, Bool.false_and])
      go_wp2_with fail
      refine wp_region_held_drew (S := (fun wx : World => wx.cell? ⟨w.heap.size, 0, none⟩ = some (.slice pa v.n pc) ∧ wx.cell? ⟨w.heap.size, 1, none⟩ = some (.slice ja v.m jc) ∧ wx.cell? ⟨w.heap.size + 1, 0, none⟩ = some (.int .i64 (fq : Int)) ∧ wx.cell? ⟨w.heap.size + 1, 1, none⟩ = some (.int .i64 fa) ∧ wx.cell? ⟨w.heap.size + 1, 2, none⟩ = some (.int .i64 fw) ∧ wx.cell? ⟨w.heap.size + 1, 3, none⟩ = some (.int .i64 lg) ∧ wx.cell? ⟨w.heap.size + 1, 4, none⟩ = some (.slice (some ⟨bb, bo, none⟩) nb bk) ∧ wx.cell? ⟨aq, 0, none⟩ = some (.int .i64 (an : Int)) ∧ wx.cell? ⟨aq, 1, none⟩ = some (.int .i64 aw) ∧ wx.cell? ⟨sq, 0, none⟩ = some (.int .i64 (sp : Int)) ∧ wx.cell? ⟨sq, 1, none⟩ = some (.int .i64 wy) ∧ wx.cell? ⟨eq, 0, none⟩ = some (.int .i64 a) ∧ wx.cell? ⟨eq, 1, none⟩ = some (.int .i64 b))) (by kernel_rfl) ?_ (fun hHeld => ?_)
      ·
       exact ⟨a0, a1, b0, b1, b2, b3, b4, c0, c1, d0, d1, e0, e1⟩
      refine tk 0 ?_
      refine tk 1 ?_
      refine tk 2 ?_
      refine tk 3 ?_
      refine tk 4 ?_
      refine tk 5 ?_
      refine tk 6 ?_
      refine tk 7 ?_
      refine tk 8 ?_
      refine rl 9 fun K hK => ?_
      go_simp
      refine (l12head79 (an : Int) (-aw) _).mono ?_
      rintro e wz ⟨he, hb⟩
      rw [HH.out.1, HH.out.2] at he
      subst he
      have MG : Hid (Below w.heap.size w wz ∧ Box wz (w.heap.size) 40 #[.slice pa v.n pc, .slice ja v.m jc] ∧ Box wz (w.heap.size + 1) 33 #[.int .i64 (fq : Int), .int .i64 fa, .int .i64 fw, .int .i64 lg, .slice (some ⟨bb, bo, none⟩) nb bk] ∧ Box wz (aq) 74 #[.int .i64 (an : Int), .int .i64 aw] ∧ Box wz (sq) 74 #[.int .i64 (sp : Int), .int .i64 wy] ∧ Box wz (eq) 76 #[.int .i64 a, .int .i64 b]) := ⟨MFD.out.1.trans (hb.mono MFD.out.1.size), MFD.out.2.1.mono hb nr, MFD.out.2.2.1.mono hb nr, MFD.out.2.2.2.1.mono hb nr, MFD.out.2.2.2.2.1.mono hb nr, MFD.out.2.2.2.2.2.mono hb nr⟩
      clear hb
      go_wp2_with fail
      refine hK.out _ _ ?_ (fun hHeld9 => ?_)
      ·
       exact ⟨MG.out.2.1.cell 0, MG.out.2.1.cell 1, MG.out.2.2.1.cell 0, MG.out.2.2.1.cell 1, MG.out.2.2.1.cell 2, MG.out.2.2.1.cell 3, MG.out.2.2.1.cell 4, MG.out.2.2.2.1.cell 0, MG.out.2.2.2.1.cell 1, MG.out.2.2.2.2.1.cell 0, MG.out.2.2.2.2.1.cell 1, MG.out.2.2.2.2.2.cell 0, MG.out.2.2.2.2.2.cell 1⟩
      clear hK K
      refine tk 10 ?_
      refine tk 11 ?_
      refine wpAnyH_done (by kernel_rfl) ?_ _
      have HT : Hid (R = false) := HR.out.symm.trans (allT_no hlt (HBK.out.trans (HW.out)))
      have HE : Hid (Below w.heap.size w wz) := MG.out.1
      clear a0 a1 b0 b1 b2 b3 b4 c0 c1 d0 d1 e0 e1
      go_wp2_with fail
      go_ret
      exact ⟨by rw [HT.out]; rfl, HE.out⟩
    ·
     have hcd' : (cd != 0) = true := by simpa using hcd
     have HW : Hid (railB v L sp wy an aw = false) := by show _ = _; rw [railB, HCD.out, decide_eq_false hcd, Bool.false_and]
     go_wp2_with fail
     refine wp_region_held_drew (S := (fun wx : World => wx.cell? ⟨w.heap.size, 0, none⟩ = some (.slice pa v.n pc) ∧ wx.cell? ⟨w.heap.size, 1, none⟩ = some (.slice ja v.m jc) ∧ wx.cell? ⟨w.heap.size + 1, 0, none⟩ = some (.int .i64 (fq : Int)) ∧ wx.cell? ⟨w.heap.size + 1, 1, none⟩ = some (.int .i64 fa) ∧ wx.cell? ⟨w.heap.size + 1, 2, none⟩ = some (.int .i64 fw) ∧ wx.cell? ⟨w.heap.size + 1, 3, none⟩ = some (.int .i64 lg) ∧ wx.cell? ⟨w.heap.size + 1, 4, none⟩ = some (.slice (some ⟨bb, bo, none⟩) nb bk) ∧ wx.cell? ⟨aq, 0, none⟩ = some (.int .i64 (an : Int)) ∧ wx.cell? ⟨aq, 1, none⟩ = some (.int .i64 aw) ∧ wx.cell? ⟨sq, 0, none⟩ = some (.int .i64 (sp : Int)) ∧ wx.cell? ⟨sq, 1, none⟩ = some (.int .i64 wy) ∧ wx.cell? ⟨eq, 0, none⟩ = some (.int .i64 a) ∧ wx.cell? ⟨eq, 1, none⟩ = some (.int .i64 b))) (by kernel_rfl) ?_ (fun hHeld => ?_)
     ·
      exact ⟨a0, a1, b0, b1, b2, b3, b4, c0, c1, d0, d1, e0, e1⟩
     refine tk 0 ?_
     refine tk 1 ?_
     refine tk 2 ?_
     refine tf 3 ?_
     refine tf 4 ?_
     refine tf 5 ?_
     refine tf 6 ?_
     refine tf 7 ?_
     refine tf 8 ?_
     refine tf 9 ?_
     refine tf 10 ?_
     refine tk 11 ?_
     refine wpAnyH_done (by kernel_rfl) ?_ _
     have HT : Hid (R = false) := HR.out.symm.trans (allT_no hlt (HBK.out.trans (HW.out)))
     have HE : Hid (Below w.heap.size w W9.drew) := MFD.out.1
     clear a0 a1 b0 b1 b2 b3 b4 c0 c1 d0 d1 e0 e1
     go_wp2_with fail
     go_ret
     exact ⟨by rw [HT.out]; rfl, HE.out⟩
  ·
   have hge : ¬ ((k : Int) < (nb : Int)) := by omega
   have HT : Hid (R = true) := HR.out.symm.trans (allT_yes fun q hq => HK.out q (by omega))
   go_wp2_with fail
   go_ret
   exact ⟨by rw [HT.out]; rfl, T.out.1⟩
end Go.Proofs.YtjhmaofjmalglaaGreat
