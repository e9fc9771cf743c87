import Derived.Test.YtjhmaofjmalglaaGreatZau
import Derived.Test.YtjhmaofjmalglaaGreatZaw
import Derived.Test.YtjhmaofjmalglaaGreatZas
import Derived.Test.YtjhmaofjmalglaaGreatZam
import Derived.Test.YtjhmaofjmalglaaGreatZan
namespace Go.Proofs.YtjhmaofjmalglaaGreat
open Go.RowKit Go.Lib
def joinedB (v : Nv) (fp fw : Int) (nb : Nat) (B : Nat → Nat → Int) : Bool := allT (fun i => joinB v (B i 0).toNat (B i 1) (ahP fp B i).toNat (ahW fw B i)) nb
set_option maxRecDepth 100000 in
set_option maxHeartbeats 16000000 in
theorem joined47 {v : Nv} (ok : v.Ok) {bt sb : Nat} {pa : Option Addr} {pc : Nat} {ja : Option Addr} {jc : Nat} (fp fa fw lg : Int) (nb : Nat) (B : Nat → Nat → Int) (ba : Option Addr) (bk : Nat) (w : World) (h : TkAt w bt sb v pa pc ja jc) (hsp : spotB v fp fa fw = true) (hnb : nb ≤ 200) (hB : NsAt 2 0 w ba nb B) (hst : ∀ i, i < nb → stepB v (B i 0) (B i 1) = true) :
  Calls Tryz.prog 111 #[.agg #[.int .i64 fp, .int .i64 fa, .int .i64 fw, .int .i64 lg, .slice ba nb bk], .func (.func 130) #[.pointer (some ⟨bt, 0, none⟩)] #[]] w fun e w' => e = .returned (.bool (joinedB v fp fw nb B)) ∧ Below w.heap.size w w' := by
 have H : Hid (v.Ok ∧ TkAt w bt sb v pa pc ja jc ∧ NsAt 2 0 w ba nb B ∧ (∀ i, i < nb → stepB v (B i 0) (B i 1) = true) ∧ spotB v fp fa fw = true) := ⟨ok, h, hB, hst, hsp⟩
 obtain ⟨fq, rfl, hfq, hfw, hfa⟩ : ∃ q : Nat, fp = (q : Int) ∧ q < v.n ∧ (fw = 1 ∨ fw = -1) ∧ (0 ≤ fa ∧ fa ≤ (v.P q).ln) := spot_nat hsp
 have S0 : Hid (Below w.heap.size w (w.alloc (.cells #[.int .i64 (fq : Int), .int .i64 fa, .int .i64 fw, .int .i64 lg, .slice ba nb bk] 90)) ∧ Box (w.alloc (.cells #[.int .i64 (fq : Int), .int .i64 fa, .int .i64 fw, .int .i64 lg, .slice ba nb bk] 90)) w.heap.size 90 #[.int .i64 (fq : Int), .int .i64 fa, .int .i64 fw, .int .i64 lg, .slice ba nb bk]) := ⟨bel1 _ _, Box.new _ _ _⟩
 clear ok h hB hst hsp
 obtain ⟨R, HR⟩ : ∃ R, Hid (joinedB v (fq : Int) fw nb B = R) := ⟨_, rfl⟩
 rw [HR.out]
 go_enter Tryz.func111, Tryz.ntmps111
 go_upto_region 1 with fail
 generalize (w.alloc (.cells #[.int .i64 (fq : Int), .int .i64 fa, .int .i64 fw, .int .i64 lg, .slice ba nb bk] 90)) = V0 at S0 ⊢
 have t0 : V0.cell? ⟨w.heap.size, 0, none⟩ = some (.int .i64 (fq : Int)) := S0.out.2.cell 0
 have t1 : V0.cell? ⟨w.heap.size, 1, none⟩ = some (.int .i64 fa) := S0.out.2.cell 1
 have t2 : V0.cell? ⟨w.heap.size, 2, none⟩ = some (.int .i64 fw) := S0.out.2.cell 2
 have t3 : V0.cell? ⟨w.heap.size, 3, none⟩ = some (.int .i64 lg) := S0.out.2.cell 3
 have t4 : V0.cell? ⟨w.heap.size, 4, none⟩ = some (.slice ba nb bk) := S0.out.2.cell 4
 go_wp2_with fail
 clear t0 t1 t2 t3 t4
 refine (step79 (fq : Int) fa fw V0).mono ?_
 rintro e w3 ⟨rfl, hb3⟩
 have S3 : Hid (Below w.heap.size w w3 ∧ Box w3 w.heap.size 90 #[.int .i64 (fq : Int), .int .i64 fa, .int .i64 fw, .int .i64 lg, .slice ba nb bk]) := ⟨S0.out.1.trans (hb3.mono S0.out.1.size), S0.out.2.mono hb3 (Nat.le_refl _)⟩
 clear hb3 S0
 have T0 : Hid ((Below w.heap.size w (w3.alloc (.cells #[.int .i64 (fq : Int), .int .i64 fw] 74)) ∧ Box (w3.alloc (.cells #[.int .i64 (fq : Int), .int .i64 fw] 74)) w.heap.size 90 #[.int .i64 (fq : Int), .int .i64 fa, .int .i64 fw, .int .i64 lg, .slice ba nb bk]) ∧ Box (w3.alloc (.cells #[.int .i64 (fq : Int), .int .i64 fw] 74)) w3.heap.size 74 #[.int .i64 (ahP (fq : Int) B 0), .int .i64 (ahW fw B 0)]) := ⟨⟨S3.out.1.alloc S3.out.1.size _, S3.out.2.alloc _⟩, Box.new w3 74 #[.int .i64 (fq : Int), .int .i64 fw]⟩
 have t4 : (w3.alloc (.cells #[.int .i64 (fq : Int), .int .i64 fw] 74)).cell? ⟨w.heap.size, 4, none⟩ = some (.slice ba nb bk) := T0.out.1.2.cell 4
 go_wp2_with fail
 clear t4
 generalize w3.alloc (.cells #[.int .i64 (fq : Int), .int .i64 fw] 74) = V4 at T0 ⊢
 have HAQ : Hid (w.heap.size ≤ w3.heap.size) := S3.out.1.size
 generalize w3.heap.size = aq at T0 HAQ ⊢
 go_loopw [14] (fun c wr => ∃ (k : Nat), k ≤ nb ∧ c = .int .i64 k ∧ Hid (∀ q, q < k → joinB v (B q 0).toNat (B q 1) (ahP (fq : Int) B q).toNat (ahW fw B q) = true) ∧ Hid ((Below w.heap.size w wr ∧ Box wr w.heap.size 90 #[.int .i64 (fq : Int), .int .i64 fa, .int .i64 fw, .int .i64 lg, .slice ba nb bk]) ∧ Box wr aq 74 #[.int .i64 (ahP (fq : Int) B k), .int .i64 (ahW fw B k)])) (fun c _ => nb - (intOf c).toNat)
 case atStart => exact ⟨0, Nat.zero_le _, rfl, fun q hq => absurd hq (Nat.not_lt_zero _), T0⟩
 case round =>
  clear T0 S3
  obtain ⟨k, hk, rfl, HK, T⟩ := hrel
  by_cases hlt : k < nb
  ·
   obtain ⟨bb, bo, hbe, _, hbl, hbc⟩ := H.out.2.2.1 (by omega)
   obtain ⟨sp, HSP, hspn, hway⟩ : ∃ q : Nat, Hid (B k 0 = (q : Int)) ∧ q < v.n ∧ (B k 1 = 1 ∨ B k 1 = -1) := step_nat (H.out.2.2.2.1 k hlt)
   obtain ⟨an, HAN, haw⟩ : ∃ q : Nat, Hid (ahP (fq : Int) B k = (q : Int)) ∧ (ahW fw B k = 1 ∨ ahW fw B k = -1) := by
    cases k with
    | zero => exact ⟨fq, (rfl : (fq : Int) = (fq : Int)), hfw⟩
    | succ i =>
     obtain ⟨q, h2, _, h3⟩ := step_nat (H.out.2.2.2.1 i (by omega))
     exact ⟨q, h2, h3⟩
   have hk0 : (0 : Int) ≤ (k : Int) := by omega
   have hkn : (k : Int) < (nb : Int) := by omega
   have d0 : wr.cell? ⟨bb, bo + k * 2, none⟩ = some (.int .i64 (B k 0)) := cell_keep T.out.1.1 hbl (hbc k hlt 0 (by omega))
   have d1 : wr.cell? ⟨bb, bo + k * 2 + 1, none⟩ = some (.int .i64 (B k 1)) := cell_keep T.out.1.1 hbl (hbc k hlt 1 (by omega))
   have hbs : ba = some ⟨bb, bo, none⟩ := hbe
   subst hbs
   have T1 : Hid (((Below w.heap.size w (wr.alloc (.cells #[.int .i64 (B k 0), .int .i64 (B k 1)] 74)) ∧ Box (wr.alloc (.cells #[.int .i64 (B k 0), .int .i64 (B k 1)] 74)) w.heap.size 90 #[.int .i64 (fq : Int), .int .i64 fa, .int .i64 fw, .int .i64 lg, .slice (some ⟨bb, bo, none⟩) nb bk]) ∧ Box (wr.alloc (.cells #[.int .i64 (B k 0), .int .i64 (B k 1)] 74)) aq 74 #[.int .i64 (ahP (fq : Int) B k), .int .i64 (ahW fw B k)]) ∧ Box (wr.alloc (.cells #[.int .i64 (B k 0), .int .i64 (B k 1)] 74)) wr.heap.size 74 #[.int .i64 (B k 0), .int .i64 (B k 1)]) := ⟨⟨⟨T.out.1.1.alloc T.out.1.1.size _, T.out.1.2.alloc _⟩, T.out.2.alloc _⟩, Box.new _ _ _⟩
   clear hbc hbl T
   go_upto_region 5 with fail
   generalize (wr.alloc (.cells #[.int .i64 (B k 0), .int .i64 (B k 1)] 74)) = V5 at T1 ⊢
   generalize wr.heap.size = sq at T1 ⊢
   have s0 : V5.cell? ⟨sq, 0, none⟩ = some (.int .i64 (sp : Int)) := by rw [← HSP.out]; exact T1.out.2.cell 0
   have s1 : V5.cell? ⟨sq, 1, none⟩ = some (.int .i64 (B k 1)) := T1.out.2.cell 1
   have a0 : V5.cell? ⟨aq, 0, none⟩ = some (.int .i64 (an : Int)) := by rw [← HAN.out]; exact T1.out.1.2.cell 0
   have a1 : V5.cell? ⟨aq, 1, none⟩ = some (.int .i64 (ahW fw B k)) := T1.out.1.2.cell 1
   rcases hway with hw1 | hw1
   ·
    rw [hw1] at s1
    have HT7 : Hid (∀ W, Below V5.heap.size V5 W → ((Below w.heap.size w W ∧ Box W w.heap.size 90 #[.int .i64 (fq : Int), .int .i64 fa, .int .i64 fw, .int .i64 lg, .slice (some ⟨bb, bo, none⟩) nb bk]) ∧ Box W aq 74 #[.int .i64 (ahP (fq : Int) B k), .int .i64 (ahW fw B k)]) ∧ Box W sq 74 #[.int .i64 (B k 0), .int .i64 (B k 1)]) := fun W hb => ⟨⟨⟨T1.out.1.1.1.trans (hb.mono T1.out.1.1.1.size), T1.out.1.1.2.mono hb (Nat.le_refl _)⟩, T1.out.1.2.mono hb (Nat.le_refl _)⟩, T1.out.2.mono hb (Nat.le_refl _)⟩
    go_wp2_with fail
    clear s0 s1 a0 a1 d0 d1
    refine (leads69 H.out.1 sp (1 : Int) an (ahW fw B k) V5 hspn (by first | exact Or.inl rfl | exact Or.inr rfl) haw (H.out.2.1.mono T1.out.1.1.1 (Nat.le_refl _))).mono ?_
    rintro e w7 ⟨he, hb7⟩
    have T7 : Hid (((Below w.heap.size w w7 ∧ Box w7 w.heap.size 90 #[.int .i64 (fq : Int), .int .i64 fa, .int .i64 fw, .int .i64 lg, .slice (some ⟨bb, bo, none⟩) nb bk]) ∧ Box w7 aq 74 #[.int .i64 (ahP (fq : Int) B k), .int .i64 (ahW fw B k)]) ∧ Box w7 sq 74 #[.int .i64 (B k 0), .int .i64 (B k 1)]) := HT7.out w7 hb7
    clear hb7 T1 HT7
    obtain ⟨u4, HU4⟩ : ∃ u, Hid (joinB v sp (1 : Int) an (ahW fw B k) = u) := ⟨_, rfl⟩
    have HBK : Hid (joinB v (B k 0).toNat (B k 1) (ahP (fq : Int) B k).toNat (ahW fw B k) = u4) := by show _ = _; rw [HSP.out, HAN.out, Int.toNat_natCast, Int.toNat_natCast, hw1, HU4.out]
    rw [HU4.out] at he
    subst he
    cases u4 with
    | false =>
     have HT : Hid (R = false) := HR.out.symm.trans (allT_no hlt HBK.out)
     go_wp2_with fail
     go_ret
     exact ⟨by rw [HT.out]; rfl, T7.out.1.1.1⟩
    | true =>
     have HK2 : Hid (∀ q, q < k + 1 → joinB v (B q 0).toNat (B q 1) (ahP (fq : Int) B q).toNat (ahW fw B q) = true) := fun q hq => by
      by_cases c : q = k
      ·
       subst c
       exact HBK.out
      ·
       exact HK.out q (by omega)
     have s0 : w7.cell? ⟨sq, 0, none⟩ = some (.int .i64 (sp : Int)) := by rw [← HSP.out]; exact T7.out.2.cell 0
     have s1 : w7.cell? ⟨sq, 1, none⟩ = some (.int .i64 (1)) := by rw [← hw1]; exact T7.out.2.cell 1
     have a0 : w7.cell? ⟨aq, 0, none⟩ = some (.int .i64 (ahP (fq : Int) B k)) := T7.out.1.2.cell 0
     have a1 : w7.cell? ⟨aq, 1, none⟩ = some (.int .i64 (ahW fw B k)) := T7.out.1.2.cell 1
     have f0 := T7.out.1.2.free 0
     have f1 := T7.out.1.2.free 1
     have e1 : w.heap.size ≠ aq := box_ne T7.out.1.1.2 T7.out.1.2 (by decide)
     have T8 : Hid ((Below w.heap.size w ((w7.setCell ⟨aq, 0, none⟩ (.int .i64 (sp : Int))).setCell ⟨aq, 1, none⟩ (.int .i64 (1))) ∧ Box ((w7.setCell ⟨aq, 0, none⟩ (.int .i64 (sp : Int))).setCell ⟨aq, 1, none⟩ (.int .i64 (1))) w.heap.size 90 #[.int .i64 (fq : Int), .int .i64 fa, .int .i64 fw, .int .i64 lg, .slice (some ⟨bb, bo, none⟩) nb bk]) ∧ Box ((w7.setCell ⟨aq, 0, none⟩ (.int .i64 (sp : Int))).setCell ⟨aq, 1, none⟩ (.int .i64 (1))) aq 74 #[.int .i64 (ahP (fq : Int) B (k + 1)), .int .i64 (ahW fw B (k + 1))]) := by
      refine ⟨⟨(T7.out.1.1.1.setCell HAQ.out _).setCell HAQ.out _, (T7.out.1.1.2.other e1 _).other e1 _⟩, ?_⟩
      have h9 := (T7.out.1.2.set 0 (.int .i64 (sp : Int))).set 1 (.int .i64 (1))
      rw [show ahP (fq : Int) B (k + 1) = (sp : Int) from HSP.out, show ahW fw B (k + 1) = (1 : Int) from hw1]
      exact h9
     clear HAN haw e1
     go_wp2_with fail
     clear s0 s1 a0 a1 f0 f1
     go_roundw
     case rel => exact ⟨k + 1, by omega, by go_num, HK2, T8⟩
     case measure => simp [intOf]; omega
   ·
    rw [hw1] at s1
    have HT7 : Hid (∀ W, Below V5.heap.size V5 W → ((Below w.heap.size w W ∧ Box W w.heap.size 90 #[.int .i64 (fq : Int), .int .i64 fa, .int .i64 fw, .int .i64 lg, .slice (some ⟨bb, bo, none⟩) nb bk]) ∧ Box W aq 74 #[.int .i64 (ahP (fq : Int) B k), .int .i64 (ahW fw B k)]) ∧ Box W sq 74 #[.int .i64 (B k 0), .int .i64 (B k 1)]) := fun W hb => ⟨⟨⟨T1.out.1.1.1.trans (hb.mono T1.out.1.1.1.size), T1.out.1.1.2.mono hb (Nat.le_refl _)⟩, T1.out.1.2.mono hb (Nat.le_refl _)⟩, T1.out.2.mono hb (Nat.le_refl _)⟩
    go_wp2_with fail
    clear s0 s1 a0 a1 d0 d1
    refine (leads69 H.out.1 sp (-1 : Int) an (ahW fw B k) V5 hspn (by first | exact Or.inl rfl | exact Or.inr rfl) haw (H.out.2.1.mono T1.out.1.1.1 (Nat.le_refl _))).mono ?_
    rintro e w7 ⟨he, hb7⟩
    have T7 : Hid (((Below w.heap.size w w7 ∧ Box w7 w.heap.size 90 #[.int .i64 (fq : Int), .int .i64 fa, .int .i64 fw, .int .i64 lg, .slice (some ⟨bb, bo, none⟩) nb bk]) ∧ Box w7 aq 74 #[.int .i64 (ahP (fq : Int) B k), .int .i64 (ahW fw B k)]) ∧ Box w7 sq 74 #[.int .i64 (B k 0), .int .i64 (B k 1)]) := HT7.out w7 hb7
    clear hb7 T1 HT7
    obtain ⟨u4, HU4⟩ : ∃ u, Hid (joinB v sp (-1 : Int) an (ahW fw B k) = u) := ⟨_, rfl⟩
    have HBK : Hid (joinB v (B k 0).toNat (B k 1) (ahP (fq : Int) B k).toNat (ahW fw B k) = u4) := by show _ = _; rw [HSP.out, HAN.out, Int.toNat_natCast, Int.toNat_natCast, hw1, HU4.out]
    rw [HU4.out] at he
    subst he
    cases u4 with
    | false =>
     have HT : Hid (R = false) := HR.out.symm.trans (allT_no hlt HBK.out)
     go_wp2_with fail
     go_ret
     exact ⟨by rw [HT.out]; rfl, T7.out.1.1.1⟩
    | true =>
     have HK2 : Hid (∀ q, q < k + 1 → joinB v (B q 0).toNat (B q 1) (ahP (fq : Int) B q).toNat (ahW fw B q) = true) := fun q hq => by
      by_cases c : q = k
      ·
       subst c
       exact HBK.out
      ·
       exact HK.out q (by omega)
     have s0 : w7.cell? ⟨sq, 0, none⟩ = some (.int .i64 (sp : Int)) := by rw [← HSP.out]; exact T7.out.2.cell 0
     have s1 : w7.cell? ⟨sq, 1, none⟩ = some (.int .i64 (-1)) := by rw [← hw1]; exact T7.out.2.cell 1
     have a0 : w7.cell? ⟨aq, 0, none⟩ = some (.int .i64 (ahP (fq : Int) B k)) := T7.out.1.2.cell 0
     have a1 : w7.cell? ⟨aq, 1, none⟩ = some (.int .i64 (ahW fw B k)) := T7.out.1.2.cell 1
     have f0 := T7.out.1.2.free 0
     have f1 := T7.out.1.2.free 1
     have e1 : w.heap.size ≠ aq := box_ne T7.out.1.1.2 T7.out.1.2 (by decide)
     have T8 : Hid ((Below w.heap.size w ((w7.setCell ⟨aq, 0, none⟩ (.int .i64 (sp : Int))).setCell ⟨aq, 1, none⟩ (.int .i64 (-1))) ∧ Box ((w7.setCell ⟨aq, 0, none⟩ (.int .i64 (sp : Int))).setCell ⟨aq, 1, none⟩ (.int .i64 (-1))) w.heap.size 90 #[.int .i64 (fq : Int), .int .i64 fa, .int .i64 fw, .int .i64 lg, .slice (some ⟨bb, bo, none⟩) nb bk]) ∧ Box ((w7.setCell ⟨aq, 0, none⟩ (.int .i64 (sp : Int))).setCell ⟨aq, 1, none⟩ (.int .i64 (-1))) aq 74 #[.int .i64 (ahP (fq : Int) B (k + 1)), .int .i64 (ahW fw B (k + 1))]) := by
      refine ⟨⟨(T7.out.1.1.1.setCell HAQ.out _).setCell HAQ.out _, (T7.out.1.1.2.other e1 _).other e1 _⟩, ?_⟩
      have h9 := (T7.out.1.2.set 0 (.int .i64 (sp : Int))).set 1 (.int .i64 (-1))
      rw [show ahP (fq : Int) B (k + 1) = (sp : Int) from HSP.out, show ahW fw B (k + 1) = (-1 : Int) from hw1]
      exact h9
     clear HAN haw e1
     go_wp2_with fail
     clear s0 s1 a0 a1 f0 f1
     go_roundw
     case rel => exact ⟨k + 1, by omega, by go_num, HK2, T8⟩
     case measure => simp [intOf]; omega
  ·
   have hge : ¬ ((k : Int) < (nb : Int)) := by omega
   have HT : Hid (R = true) := HR.out.symm.trans (allT_yes fun q hq => HK.out q (by omega))
   go_wp2_with fail
   go_ret
   exact ⟨by rw [HT.out]; rfl, T.out.1.1⟩
theorem TkAt.other {w W W' : World} {bt sb : Nat} {v : Nv} {pa : Option Addr} {pc : Nat} {ja : Option Addr} {jc c : Nat} (h : TkAt W bt sb v pa pc ja jc) (h1 : c ≠ bt) (hk : ∀ k, k ≠ c → W'.heap[k]? = W.heap[k]?) (hsz : W.heap.size ≤ W'.heap.size) (hc : ∀ o, W'.cell? ⟨sb, o, none⟩ = W.cell? ⟨sb, o, none⟩) (hb : Below w.heap.size w W') (hP : PsAt 0 w pa v.n v.P) (hJ : JsAt 0 w ja v.m v.J) : TkAt W' bt sb v pa pc ja jc :=
 ⟨h.box.keep (hk bt (Ne.symm h1)), Nat.lt_of_lt_of_le h.lt hsz, fun q s hq hs => ⟨(hc _).trans (h.st q s hq hs).1, (hc _).trans (h.st q s hq hs).2⟩, hP.mono (Nat.le_refl _) hb (Nat.le_refl _), hJ.mono (Nat.le_refl _) hb (Nat.le_refl _)⟩
theorem TkAt.set {w W : World} {bt sb : Nat} {v : Nv} {pa : Option Addr} {pc : Nat} {ja : Option Addr} {jc c o : Nat} {x : Value} (h : TkAt W bt sb v pa pc ja jc) (h1 : c ≠ bt) (h2 : c ≠ sb) (hcw : w.heap.size ≤ c) (hb : Below w.heap.size w W) (hP : PsAt 0 w pa v.n v.P) (hJ : JsAt 0 w ja v.m v.J) : TkAt (W.setCell ⟨c, o, none⟩ x) bt sb v pa pc ja jc :=
 have hk : ∀ k, k ≠ c → (W.setCell ⟨c, o, none⟩ x).heap[k]? = W.heap[k]? := fun k hk => Below.heap_setCell W ⟨c, o, none⟩ x k hk
 h.other h1 hk (Nat.le_of_eq (size_setc _ _ _).symm) (fun o' => by simp only [World.cell?, hk sb (Ne.symm h2)]) (hb.setCell hcw _) hP hJ
def trainF (v : Nv) (fp fa fw lg : Int) (nb : Nat) (B : Nat → Nat → Int) : Bool := decide ((netF v.n v.P v.m v.J).1 = 0) && trnB v fp fa fw lg nb B
def OnR (w : World) (pa : Option Addr) (pc : Nat) (ja : Option Addr) (jc : Nat) (v : Nv) (fp fa fw lg : Int) (nb : Nat) (ba : Option Addr) (bk : Nat) (g : Bool) (e : Ending) (w' : World) : Prop := ∃ (kp : Option Addr) (y0 y1 y2 y3 : Int) (ya : Option Addr) (yn yc : Nat), e = .returned (.tuple #[.pointer kp, .agg #[.int .i64 y0, .int .i64 y1, .int .i64 y2, .int .i64 y3, .slice ya yn yc], .bool g]) ∧ Below w.heap.size w w' ∧ (g = true → (y0 = fp ∧ y1 = fa ∧ y2 = fw ∧ y3 = lg ∧ ya = ba ∧ yn = nb ∧ yc = bk) ∧ ∃ bt sb, kp = some ⟨bt, 0, none⟩ ∧ TkAt w' bt sb v pa pc ja jc)
theorem allT_and {f g : Nat → Bool} : ∀ k, allT (fun i => f i && g i) k = (allT f k && allT g k)
 | 0 => rfl
 | k + 1 => by
  rw [allT, allT, allT, allT_and k]
  generalize allT f k = a
  generalize allT g k = b
  generalize f k = c
  generalize g k = d
  cases a <;> cases b <;> cases c <;> cases d <;> rfl
theorem trn_eq {v : Nv} {fp fa fw lg : Int} {nb : Nat} {B : Nat → Nat → Int} (h0 : ((spotB v fp fa fw && inB lg 1 100000) && decide (nb ≤ 200)) = true) (h : ∀ i, i < nb → stepB v (B i 0) (B i 1) = true) : trnB v fp fa fw lg nb B = (joinedB v fp fw nb B && needB v fp fa fw lg nb B) := by
 have h1 : allT (fun i => stepB v (B i 0) (B i 1)) nb = true := allT_yes h
 have h2 : allT (bkB v fp fa fw lg B) nb = (allT (fun i => stepB v (B i 0) (B i 1)) nb && (allT (fun i => decide (hvF v fp fa fw B i < lg)) nb && allT (fun i => joinB v (B i 0).toNat (B i 1) (ahP fp B i).toNat (ahW fw B i)) nb)) := by
  rw [← allT_and, ← allT_and]
  rfl
 rw [trnB, h0, h2, h1, Bool.true_and, Bool.true_and, joinedB, needB]
 generalize allT (fun i => decide (hvF v fp fa fw B i < lg)) nb = a
 generalize allT (fun i => joinB v (B i 0).toNat (B i 1) (ahP fp B i).toNat (ahW fw B i)) nb = c
 generalize decide (lg ≤ hvF v fp fa fw B nb) = d
 cases a <;> cases c <;> cases d <;> rfl
theorem trn_step {v : Nv} {fp fa fw lg : Int} {nb : Nat} {B : Nat → Nat → Int} {q : Nat} (hq : q < nb) (h : stepB v (B q 0) (B q 1) = false) : trnB v fp fa fw lg nb B = false := trn_back hq (by rw [bkB, h, Bool.false_and])
end Go.Proofs.YtjhmaofjmalglaaGreat
