import Derived.Test.YtoennemahlakeaaWk
import Derived.Test.YtoennemahlakeaaTv
namespace Go.Proofs.Ytoennemahlakeaa
open Go.RowKit Go.Lib

set_option maxRecDepth 100000 in
set_option maxHeartbeats 16000000 in
theorem law5 {v : Nv} (pa : Option Addr) (pc : Nat) (ja : Option Addr) (jc : Nat) (fp fa fw lg : Int) (nb : Nat) (B : Nat → Nat → Int) (ba : Option Addr) (bk : Nat) (w : World) (hn : v.n ≤ maxLen) (hm : v.m ≤ maxLen) (hl : nb ≤ maxLen) (hP : PsAt 0 w pa v.n v.P) (hJ : JsAt 0 w ja v.m v.J) (hps : ∀ i, i < v.n → (v.P i).nm.size ≤ maxLen) (hjs : ∀ i, i < v.m → (v.J i).nm.size ≤ maxLen ∧ (v.J i).ne ≤ maxLen) (hB : NsAt 2 0 w ba nb B) :
    Calls Try.prog 5 #[.agg #[.slice pa v.n pc, .slice ja v.m jc], .agg #[.int .i64 fp, .int .i64 fa, .int .i64 fw, .int .i64 lg, .slice ba nb bk]] w fun e w' => e = .returned (.bool true) ∧ Below w.heap.size w w' := by
  have H : Hid (PsAt 0 w pa v.n v.P ∧ JsAt 0 w ja v.m v.J ∧ NsAt 2 0 w ba nb B ∧ (∀ i, i < v.n → (v.P i).nm.size ≤ maxLen) ∧ (∀ i, i < v.m → (v.J i).nm.size ≤ maxLen ∧ (v.J i).ne ≤ maxLen)) := ⟨hP, hJ, hB, hps, hjs⟩
  have S0 : Hid (Below w.heap.size w ((w.alloc (.cells #[.slice pa v.n pc, .slice ja v.m jc] 25)).alloc (.cells #[.int .i64 fp, .int .i64 fa, .int .i64 fw, .int .i64 lg, .slice ba nb bk] 42)) ∧ Box ((w.alloc (.cells #[.slice pa v.n pc, .slice ja v.m jc] 25)).alloc (.cells #[.int .i64 fp, .int .i64 fa, .int .i64 fw, .int .i64 lg, .slice ba nb bk] 42)) (w.heap.size) 25 #[.slice pa v.n pc, .slice ja v.m jc] ∧ Box ((w.alloc (.cells #[.slice pa v.n pc, .slice ja v.m jc] 25)).alloc (.cells #[.int .i64 fp, .int .i64 fa, .int .i64 fw, .int .i64 lg, .slice ba nb bk] 42)) (w.heap.size + 1) 42 #[.int .i64 fp, .int .i64 fa, .int .i64 fw, .int .i64 lg, .slice ba nb bk]) := ⟨bel2 _ _ _, (Box.new _ _ _).alloc _, by have := Box.new (w.alloc (.cells #[.slice pa v.n pc, .slice ja v.m jc] 25)) 42 #[.int .i64 fp, .int .i64 fa, .int .i64 fw, .int .i64 lg, .slice ba nb bk]; simpa using this⟩
  clear hP hJ hB hps hjs
  go_enter Try.func5, Try.ntmps5
  go_upto_region 1 with fail
  generalize ((w.alloc (.cells #[.slice pa v.n pc, .slice ja v.m jc] 25)).alloc (.cells #[.int .i64 fp, .int .i64 fa, .int .i64 fw, .int .i64 lg, .slice ba nb bk] 42)) = V0 at S0 ⊢
  have a0 : V0.cell? ⟨w.heap.size, 0, none⟩ = some (.slice pa v.n pc) := S0.out.2.1.cell 0
  have a1 : V0.cell? ⟨w.heap.size, 1, none⟩ = some (.slice ja v.m jc) := S0.out.2.1.cell 1
  have b0 : V0.cell? ⟨w.heap.size + 1, 0, none⟩ = some (.int .i64 fp) := S0.out.2.2.cell 0
  have b1 : V0.cell? ⟨w.heap.size + 1, 1, none⟩ = some (.int .i64 fa) := S0.out.2.2.cell 1
  have b2 : V0.cell? ⟨w.heap.size + 1, 2, none⟩ = some (.int .i64 fw) := S0.out.2.2.cell 2
  have b3 : V0.cell? ⟨w.heap.size + 1, 3, none⟩ = some (.int .i64 lg) := S0.out.2.2.cell 3
  have b4 : V0.cell? ⟨w.heap.size + 1, 4, none⟩ = some (.slice ba nb bk) := S0.out.2.2.cell 4
  go_wp2_with fail
  clear a0 a1 b0 b1 b2 b3 b4
  refine (szNet5 pa v.n pc v.P ja v.m jc v.J 1048576 V0 hn hm (by omega) (by omega) (H.out.1.mono (Nat.le_refl _) S0.out.1 (Nat.le_refl _)) (H.out.2.1.mono (Nat.le_refl _) S0.out.1 (Nat.le_refl _)) H.out.2.2.2.1 H.out.2.2.2.2).mono ?_
  rintro e w1 ⟨r, rfl, hr1, hr2, hb1⟩
  have S1 : Hid (Below w.heap.size w w1 ∧ Box w1 (w.heap.size) 25 #[.slice pa v.n pc, .slice ja v.m jc] ∧ Box w1 (w.heap.size + 1) 42 #[.int .i64 fp, .int .i64 fa, .int .i64 fw, .int .i64 lg, .slice ba nb bk]) := ⟨S0.out.1.trans (hb1.mono S0.out.1.size), S0.out.2.1.mono hb1 (Nat.le_refl _), S0.out.2.2.mono hb1 (Nat.le_refl _)⟩
  clear hb1 S0
  by_cases hneg : r < 0
  · clear hr2
    go_wp2_with fail
    go_ret
    exact ⟨rfl, S1.out.1⟩
  obtain ⟨hn2, hm2, hne2⟩ := hr2 (by omega)
  have hn1 : v.n ≤ 1048576 := by omega
  have hm1 : v.m ≤ 1048576 := by omega
  have HNE : Hid (∀ i, i < v.m → (v.J i).ne ≤ 1048576) := fun i hi => by have := hne2 i hi; omega
  have HNE2 : Hid (∀ i, i < v.m → (v.J i).ne ≤ 1048576 ∧ (v.J i).nm.size ≤ maxLen) := fun i hi => ⟨HNE.out i hi, (H.out.2.2.2.2 i hi).1⟩
  clear hr2 hne2 hn2 hm2
  have a0 : w1.cell? ⟨w.heap.size, 0, none⟩ = some (.slice pa v.n pc) := S1.out.2.1.cell 0
  have a1 : w1.cell? ⟨w.heap.size, 1, none⟩ = some (.slice ja v.m jc) := S1.out.2.1.cell 1
  have b0 : w1.cell? ⟨w.heap.size + 1, 0, none⟩ = some (.int .i64 fp) := S1.out.2.2.cell 0
  have b1 : w1.cell? ⟨w.heap.size + 1, 1, none⟩ = some (.int .i64 fa) := S1.out.2.2.cell 1
  have b2 : w1.cell? ⟨w.heap.size + 1, 2, none⟩ = some (.int .i64 fw) := S1.out.2.2.cell 2
  have b3 : w1.cell? ⟨w.heap.size + 1, 3, none⟩ = some (.int .i64 lg) := S1.out.2.2.cell 3
  have b4 : w1.cell? ⟨w.heap.size + 1, 4, none⟩ = some (.slice ba nb bk) := S1.out.2.2.cell 4
  go_wp2_with fail
  clear a0 a1 b0 b1 b2 b3 b4
  refine (szTrain14 fp fa fw lg nb ba bk r w1 hl (by omega) (by omega)).mono ?_
  rintro e w2 ⟨r2, rfl, hs1, hs2, hb2⟩
  have S2 : Hid (Below w.heap.size w w2 ∧ Box w2 (w.heap.size) 25 #[.slice pa v.n pc, .slice ja v.m jc] ∧ Box w2 (w.heap.size + 1) 42 #[.int .i64 fp, .int .i64 fa, .int .i64 fw, .int .i64 lg, .slice ba nb bk]) := ⟨S1.out.1.trans (hb2.mono S1.out.1.size), S1.out.2.1.mono hb2 (Nat.le_refl _), S1.out.2.2.mono hb2 (Nat.le_refl _)⟩
  clear hb2 S1
  by_cases hneg2 : r2 < 0
  · clear hs2
    go_wp2_with fail
    go_ret
    exact ⟨rfl, S2.out.1⟩
  have hnb1 : nb ≤ 1048576 := by have := hs2 (by omega); omega
  clear hs2 hs1
  obtain ⟨r0, r1, r2', HR⟩ : ∃ r0 r1 r2, Hid (tlF v fp fa fw lg nb B 0 = r0 ∧ tlF v fp fa fw lg nb B 1 = r1 ∧ tlF v fp fa fw lg nb B 2 = r2) := ⟨_, _, _, rfl, rfl, rfl⟩
  go_upto_region 8 with fail
  go_cut [6] from 10 (fun s6 wx => ∃ tb : Nat, s6 = .pointer (some ⟨tb, 0, none⟩) ∧ Hid (Below w.heap.size w wx ∧ Box wx (w.heap.size) 25 #[.slice pa v.n pc, .slice ja v.m jc] ∧ Box wx (w.heap.size + 1) 42 #[.int .i64 fp, .int .i64 fa, .int .i64 fw, .int .i64 lg, .slice ba nb bk] ∧ Box wx (tb) 45 #[.int .i64 r0, .int .i64 r1, .int .i64 r2']))
  case first =>
    have MD : Hid (Below w.heap.size w w2.drew ∧ Box w2.drew (w.heap.size) 25 #[.slice pa v.n pc, .slice ja v.m jc] ∧ Box w2.drew (w.heap.size + 1) 42 #[.int .i64 fp, .int .i64 fa, .int .i64 fw, .int .i64 lg, .slice ba nb bk]) := ⟨S2.out.1.drew, S2.out.2.1.drew, S2.out.2.2.drew⟩
    have a0 : w2.cell? ⟨w.heap.size, 0, none⟩ = some (.slice pa v.n pc) := S2.out.2.1.cell 0
    have a1 : w2.cell? ⟨w.heap.size, 1, none⟩ = some (.slice ja v.m jc) := S2.out.2.1.cell 1
    have b0 : w2.cell? ⟨w.heap.size + 1, 0, none⟩ = some (.int .i64 fp) := S2.out.2.2.cell 0
    have b1 : w2.cell? ⟨w.heap.size + 1, 1, none⟩ = some (.int .i64 fa) := S2.out.2.2.cell 1
    have b2 : w2.cell? ⟨w.heap.size + 1, 2, none⟩ = some (.int .i64 fw) := S2.out.2.2.cell 2
    have b3 : w2.cell? ⟨w.heap.size + 1, 3, none⟩ = some (.int .i64 lg) := S2.out.2.2.cell 3
    have b4 : w2.cell? ⟨w.heap.size + 1, 4, none⟩ = some (.slice ba nb bk) := S2.out.2.2.cell 4
    clear S2
    go_wp2_with fail
    refine wp_region_held_drew (S := (fun wx : World => wx.cell? ⟨w.heap.size, 0, none⟩ = some (.slice pa v.n pc) ∧ wx.cell? ⟨w.heap.size, 1, none⟩ = some (.slice ja v.m jc) ∧ wx.cell? ⟨w.heap.size + 1, 0, none⟩ = some (.int .i64 fp) ∧ wx.cell? ⟨w.heap.size + 1, 1, none⟩ = some (.int .i64 fa) ∧ wx.cell? ⟨w.heap.size + 1, 2, none⟩ = some (.int .i64 fw) ∧ wx.cell? ⟨w.heap.size + 1, 3, none⟩ = some (.int .i64 lg) ∧ wx.cell? ⟨w.heap.size + 1, 4, none⟩ = some (.slice ba nb bk))) (by kernel_rfl) ?_ (fun hHeld => ?_)
    · exact ⟨a0, a1, b0, b1, b2, b3, b4⟩
    clear a0 a1 b0 b1 b2 b3 b4
    generalize w2.drew = VD at MD hHeld ⊢
    refine tk 0 ?_
    refine tk 2 ?_
    refine ready2_lit (i := 1) (j := 5) (by kernel_rfl) rfl rfl (fun K hK => ?_) (fun K hK => ?_)
    · go_simp
      refine (toNetR pa pc ja jc _ hn1 hm1 (H.out.1.mono (Nat.le_refl _) MD.out.1 (Nat.le_refl _)) (H.out.2.1.mono (Nat.le_refl _) MD.out.1 (Nat.le_refl _)) HNE.out).mono ?_
      rintro e wh1 ⟨pa1, ja1, rfl, hP3, hJ3, hb⟩
      have MA2 : Hid (Below w.heap.size w wh1 ∧ Box wh1 (w.heap.size) 25 #[.slice pa v.n pc, .slice ja v.m jc] ∧ Box wh1 (w.heap.size + 1) 42 #[.int .i64 fp, .int .i64 fa, .int .i64 fw, .int .i64 lg, .slice ba nb bk]) := ⟨MD.out.1.trans (hb.mono MD.out.1.size), MD.out.2.1.mono hb (Nat.le_refl _), MD.out.2.2.mono hb (Nat.le_refl _)⟩
      have QA3 : Hid (PsAt 0 wh1 pa1 v.n v.P ∧ JsAt 0 wh1 ja1 v.m v.J) := ⟨hP3, hJ3⟩
      clear hb hP3 hJ3 MD
      go_wp2_with fail
      refine hK.out _ _ ?_ (fun hHeld => ?_)
      · exact ⟨MA2.out.2.1.cell 0, MA2.out.2.1.cell 1, MA2.out.2.2.cell 0, MA2.out.2.2.cell 1, MA2.out.2.2.cell 2, MA2.out.2.2.cell 3, MA2.out.2.2.cell 4⟩
      clear hK K
      refine ready2_lit (i := 3) (j := 5) (by kernel_rfl) rfl rfl (fun K hK => ?_) (fun K hK => ?_)
      · go_simp
        refine (toTrain16 fp fa fw lg nb B ba bk _ hnb1 (H.out.2.2.1.mono (Nat.le_refl _) MA2.out.1 (Nat.le_refl _))).mono ?_
        rintro e wh4 ⟨bn, rfl, hB4, hb⟩
        have MA5 : Hid (Below w.heap.size w wh4 ∧ Box wh4 (w.heap.size) 25 #[.slice pa v.n pc, .slice ja v.m jc] ∧ Box wh4 (w.heap.size + 1) 42 #[.int .i64 fp, .int .i64 fa, .int .i64 fw, .int .i64 lg, .slice ba nb bk]) := ⟨MA2.out.1.trans (hb.mono MA2.out.1.size), MA2.out.2.1.mono hb (Nat.le_refl _), MA2.out.2.2.mono hb (Nat.le_refl _)⟩
        have QA6 : Hid (PsAt 0 wh4 pa1 v.n v.P ∧ JsAt 0 wh4 ja1 v.m v.J ∧ NsAt 2 0 wh4 (some ⟨bn, 0, none⟩) nb B) := ⟨(QA3.out.1.mono (Nat.le_refl _) hb (Nat.le_refl _)), (QA3.out.2.mono (Nat.le_refl _) hb (Nat.le_refl _)), (hB4.keep (Nat.zero_le _) (Nat.le_refl _) fun _ _ _ => rfl)⟩
        clear hb hB4 MA2 QA3
        go_wp2_with fail
        refine hK.out _ _ ?_ (fun hHeld => ?_)
        · exact ⟨MA5.out.2.1.cell 0, MA5.out.2.1.cell 1, MA5.out.2.2.cell 0, MA5.out.2.2.cell 1, MA5.out.2.2.cell 2, MA5.out.2.2.cell 3, MA5.out.2.2.cell 4⟩
        clear hK K
        refine ready2_lit (i := 4) (j := 5) (by kernel_rfl) rfl rfl (fun K hK => ?_) (fun K hK => ?_)
        · go_simp
          refine (specTail19 pa1 v.n ja1 v.m fp fa fw lg nb B (some ⟨bn, 0, none⟩) nb _ hn1 hm1 hnb1 QA6.out.1 QA6.out.2.1 H.out.2.2.2.1 HNE2.out QA6.out.2.2).mono ?_
          rintro e wh7 ⟨he, hb⟩
          rw [HR.out.1, HR.out.2.1, HR.out.2.2] at he
          subst he
          have MA8 : Hid (Below w.heap.size w wh7 ∧ Box wh7 (w.heap.size) 25 #[.slice pa v.n pc, .slice ja v.m jc] ∧ Box wh7 (w.heap.size + 1) 42 #[.int .i64 fp, .int .i64 fa, .int .i64 fw, .int .i64 lg, .slice ba nb bk]) := ⟨MA5.out.1.trans (hb.mono MA5.out.1.size), MA5.out.2.1.mono hb (Nat.le_refl _), MA5.out.2.2.mono hb (Nat.le_refl _)⟩
          clear hb MA5 QA6
          go_wp2_with fail
          refine hK.out _ _ ?_ (fun hHeld => ?_)
          · exact ⟨MA8.out.2.1.cell 0, MA8.out.2.1.cell 1, MA8.out.2.2.cell 0, MA8.out.2.2.cell 1, MA8.out.2.2.cell 2, MA8.out.2.2.cell 3, MA8.out.2.2.cell 4⟩
          clear hK K
          refine rl 5 fun K hK => ?_
          have HTL0 : Hid (w.heap.size ≤ wh7.heap.size) := MA8.out.1.size
          have MA10x : Hid (Below w.heap.size w (wh7.alloc (.cells #[.int .i64 0, .int .i64 0, .int .i64 0] 45)) ∧ Box (wh7.alloc (.cells #[.int .i64 0, .int .i64 0, .int .i64 0] 45)) (w.heap.size) 25 #[.slice pa v.n pc, .slice ja v.m jc] ∧ Box (wh7.alloc (.cells #[.int .i64 0, .int .i64 0, .int .i64 0] 45)) (w.heap.size + 1) 42 #[.int .i64 fp, .int .i64 fa, .int .i64 fw, .int .i64 lg, .slice ba nb bk] ∧ Box (wh7.alloc (.cells #[.int .i64 0, .int .i64 0, .int .i64 0] 45)) wh7.heap.size 45 #[.int .i64 0, .int .i64 0, .int .i64 0]) := ⟨MA8.out.1.alloc MA8.out.1.size _, MA8.out.2.1.alloc _, MA8.out.2.2.alloc _, Box.new _ _ _⟩
          clear MA8
          go_simp
          refine hK.out _ _ ?_ (fun hHeld => ?_)
          · exact ⟨MA10x.out.2.1.cell 0, MA10x.out.2.1.cell 1, MA10x.out.2.2.1.cell 0, MA10x.out.2.2.1.cell 1, MA10x.out.2.2.1.cell 2, MA10x.out.2.2.1.cell 3, MA10x.out.2.2.1.cell 4⟩
          clear hK K
          clear hHeld
          generalize wh7.alloc (.cells #[.int .i64 0, .int .i64 0, .int .i64 0] 45) = wh9 at MA10x  ⊢
          generalize wh7.heap.size = tb at MA10x HTL0 ⊢
          have HTL : Hid (w.heap.size ≤ tb) := HTL0
          clear HTL0
          have MA10 : Hid (Below w.heap.size w wh9 ∧ Box wh9 (w.heap.size) 25 #[.slice pa v.n pc, .slice ja v.m jc] ∧ Box wh9 (w.heap.size + 1) 42 #[.int .i64 fp, .int .i64 fa, .int .i64 fw, .int .i64 lg, .slice ba nb bk] ∧ Box wh9 (tb) 45 #[.int .i64 0, .int .i64 0, .int .i64 0]) := MA10x
          clear MA10x
          have z0 : wh9.cell? ⟨tb, 0, none⟩ = some (.int .i64 0) := MA10.out.2.2.2.cell 0
          have z1 : wh9.cell? ⟨tb, 1, none⟩ = some (.int .i64 0) := MA10.out.2.2.2.cell 1
          have z2 : wh9.cell? ⟨tb, 2, none⟩ = some (.int .i64 0) := MA10.out.2.2.2.cell 2
          have q0 := MA10.out.2.2.2.free 0
          have q1 := MA10.out.2.2.2.free 1
          have q2 := MA10.out.2.2.2.free 2
          have e0 : w.heap.size ≠ tb := box_ne MA10.out.2.1 MA10.out.2.2.2 (by decide)
          have e1 : w.heap.size + 1 ≠ tb := box_ne MA10.out.2.2.1 MA10.out.2.2.2 (by decide)
          have MF : Hid (Below w.heap.size w (((wh9.setCell ⟨tb, 0, none⟩ (.int .i64 r0)).setCell ⟨tb, 1, none⟩ (.int .i64 r1)).setCell ⟨tb, 2, none⟩ (.int .i64 r2')) ∧ Box (((wh9.setCell ⟨tb, 0, none⟩ (.int .i64 r0)).setCell ⟨tb, 1, none⟩ (.int .i64 r1)).setCell ⟨tb, 2, none⟩ (.int .i64 r2')) (w.heap.size) 25 #[.slice pa v.n pc, .slice ja v.m jc] ∧ Box (((wh9.setCell ⟨tb, 0, none⟩ (.int .i64 r0)).setCell ⟨tb, 1, none⟩ (.int .i64 r1)).setCell ⟨tb, 2, none⟩ (.int .i64 r2')) (w.heap.size + 1) 42 #[.int .i64 fp, .int .i64 fa, .int .i64 fw, .int .i64 lg, .slice ba nb bk] ∧ Box (((wh9.setCell ⟨tb, 0, none⟩ (.int .i64 r0)).setCell ⟨tb, 1, none⟩ (.int .i64 r1)).setCell ⟨tb, 2, none⟩ (.int .i64 r2')) (tb) 45 #[.int .i64 r0, .int .i64 r1, .int .i64 r2']) := ⟨((MA10.out.1.setCell HTL.out _).setCell HTL.out _).setCell HTL.out _, ((MA10.out.2.1.other e0 _).other e0 _).other e0 _, ((MA10.out.2.2.1.other e1 _).other e1 _).other e1 _, by
            have h9 := ((MA10.out.2.2.2.set 0 (.int .i64 r0)).set 1 (.int .i64 r1)).set 2 (.int .i64 r2')
            exact h9⟩
          refine rl 6 fun K hK => ?_
          go_simp
          refine hK.out _ _ ?_ (fun hHeld => ?_)
          · exact ⟨MF.out.2.1.cell 0, MF.out.2.1.cell 1, MF.out.2.2.1.cell 0, MF.out.2.2.1.cell 1, MF.out.2.2.1.cell 2, MF.out.2.2.1.cell 3, MF.out.2.2.1.cell 4⟩
          clear hK K
          refine wpAnyH_done (by kernel_rfl) ?_ _
          clear z0 z1 z2 q0 q1 q2 hHeld
          go_wp2_with fail
          go_meet
          case rel => exact ⟨tb, rfl, MF⟩
        · have HTL0 : Hid (w.heap.size ≤ wh4.heap.size) := MA5.out.1.size
          have MA13x : Hid (Below w.heap.size w (wh4.alloc (.cells #[.int .i64 0, .int .i64 0, .int .i64 0] 45)) ∧ Box (wh4.alloc (.cells #[.int .i64 0, .int .i64 0, .int .i64 0] 45)) (w.heap.size) 25 #[.slice pa v.n pc, .slice ja v.m jc] ∧ Box (wh4.alloc (.cells #[.int .i64 0, .int .i64 0, .int .i64 0] 45)) (w.heap.size + 1) 42 #[.int .i64 fp, .int .i64 fa, .int .i64 fw, .int .i64 lg, .slice ba nb bk] ∧ Box (wh4.alloc (.cells #[.int .i64 0, .int .i64 0, .int .i64 0] 45)) wh4.heap.size 45 #[.int .i64 0, .int .i64 0, .int .i64 0]) := ⟨MA5.out.1.alloc MA5.out.1.size _, MA5.out.2.1.alloc _, MA5.out.2.2.alloc _, Box.new _ _ _⟩
          have QA14 : Hid (PsAt 0 (wh4.alloc (.cells #[.int .i64 0, .int .i64 0, .int .i64 0] 45)) pa1 v.n v.P ∧ JsAt 0 (wh4.alloc (.cells #[.int .i64 0, .int .i64 0, .int .i64 0] 45)) ja1 v.m v.J ∧ NsAt 2 0 (wh4.alloc (.cells #[.int .i64 0, .int .i64 0, .int .i64 0] 45)) (some ⟨bn, 0, none⟩) nb B) := ⟨QA6.out.1.mono (Nat.le_refl _) (bel1 _ _) (Nat.le_refl _), QA6.out.2.1.mono (Nat.le_refl _) (bel1 _ _) (Nat.le_refl _), QA6.out.2.2.mono (Nat.le_refl _) (bel1 _ _) (Nat.le_refl _)⟩
          clear QA6
          clear MA5
          go_simp
          refine hK.out _ _ ?_ (fun hHeld => ?_)
          · exact ⟨MA13x.out.2.1.cell 0, MA13x.out.2.1.cell 1, MA13x.out.2.2.1.cell 0, MA13x.out.2.2.1.cell 1, MA13x.out.2.2.1.cell 2, MA13x.out.2.2.1.cell 3, MA13x.out.2.2.1.cell 4⟩
          clear hK K
          clear hHeld
          generalize wh4.alloc (.cells #[.int .i64 0, .int .i64 0, .int .i64 0] 45) = wh12 at MA13x QA14 ⊢
          generalize wh4.heap.size = tb at MA13x HTL0 ⊢
          have HTL : Hid (w.heap.size ≤ tb) := HTL0
          clear HTL0
          have MA13 : Hid (Below w.heap.size w wh12 ∧ Box wh12 (w.heap.size) 25 #[.slice pa v.n pc, .slice ja v.m jc] ∧ Box wh12 (w.heap.size + 1) 42 #[.int .i64 fp, .int .i64 fa, .int .i64 fw, .int .i64 lg, .slice ba nb bk] ∧ Box wh12 (tb) 45 #[.int .i64 0, .int .i64 0, .int .i64 0]) := MA13x
          clear MA13x
          refine rl 4 fun K hK => ?_
          go_simp
          refine (specTail19 pa1 v.n ja1 v.m fp fa fw lg nb B (some ⟨bn, 0, none⟩) nb _ hn1 hm1 hnb1 QA14.out.1 QA14.out.2.1 H.out.2.2.2.1 HNE2.out QA14.out.2.2).mono ?_
          rintro e wh15 ⟨he, hb⟩
          rw [HR.out.1, HR.out.2.1, HR.out.2.2] at he
          subst he
          have MA16 : Hid (Below w.heap.size w wh15 ∧ Box wh15 (w.heap.size) 25 #[.slice pa v.n pc, .slice ja v.m jc] ∧ Box wh15 (w.heap.size + 1) 42 #[.int .i64 fp, .int .i64 fa, .int .i64 fw, .int .i64 lg, .slice ba nb bk] ∧ Box wh15 (tb) 45 #[.int .i64 0, .int .i64 0, .int .i64 0]) := ⟨MA13.out.1.trans (hb.mono MA13.out.1.size), MA13.out.2.1.mono hb (Nat.le_refl _), MA13.out.2.2.1.mono hb (Nat.le_refl _), MA13.out.2.2.2.mono hb (Nat.le_refl _)⟩
          clear hb MA13 QA14
          go_wp2_with fail
          refine hK.out _ _ ?_ (fun hHeld => ?_)
          · exact ⟨MA16.out.2.1.cell 0, MA16.out.2.1.cell 1, MA16.out.2.2.1.cell 0, MA16.out.2.2.1.cell 1, MA16.out.2.2.1.cell 2, MA16.out.2.2.1.cell 3, MA16.out.2.2.1.cell 4⟩
          clear hK K
          have z0 : wh15.cell? ⟨tb, 0, none⟩ = some (.int .i64 0) := MA16.out.2.2.2.cell 0
          have z1 : wh15.cell? ⟨tb, 1, none⟩ = some (.int .i64 0) := MA16.out.2.2.2.cell 1
          have z2 : wh15.cell? ⟨tb, 2, none⟩ = some (.int .i64 0) := MA16.out.2.2.2.cell 2
          have q0 := MA16.out.2.2.2.free 0
          have q1 := MA16.out.2.2.2.free 1
          have q2 := MA16.out.2.2.2.free 2
          have e0 : w.heap.size ≠ tb := box_ne MA16.out.2.1 MA16.out.2.2.2 (by decide)
          have e1 : w.heap.size + 1 ≠ tb := box_ne MA16.out.2.2.1 MA16.out.2.2.2 (by decide)
          have MF : Hid (Below w.heap.size w (((wh15.setCell ⟨tb, 0, none⟩ (.int .i64 r0)).setCell ⟨tb, 1, none⟩ (.int .i64 r1)).setCell ⟨tb, 2, none⟩ (.int .i64 r2')) ∧ Box (((wh15.setCell ⟨tb, 0, none⟩ (.int .i64 r0)).setCell ⟨tb, 1, none⟩ (.int .i64 r1)).setCell ⟨tb, 2, none⟩ (.int .i64 r2')) (w.heap.size) 25 #[.slice pa v.n pc, .slice ja v.m jc] ∧ Box (((wh15.setCell ⟨tb, 0, none⟩ (.int .i64 r0)).setCell ⟨tb, 1, none⟩ (.int .i64 r1)).setCell ⟨tb, 2, none⟩ (.int .i64 r2')) (w.heap.size + 1) 42 #[.int .i64 fp, .int .i64 fa, .int .i64 fw, .int .i64 lg, .slice ba nb bk] ∧ Box (((wh15.setCell ⟨tb, 0, none⟩ (.int .i64 r0)).setCell ⟨tb, 1, none⟩ (.int .i64 r1)).setCell ⟨tb, 2, none⟩ (.int .i64 r2')) (tb) 45 #[.int .i64 r0, .int .i64 r1, .int .i64 r2']) := ⟨((MA16.out.1.setCell HTL.out _).setCell HTL.out _).setCell HTL.out _, ((MA16.out.2.1.other e0 _).other e0 _).other e0 _, ((MA16.out.2.2.1.other e1 _).other e1 _).other e1 _, by
            have h9 := ((MA16.out.2.2.2.set 0 (.int .i64 r0)).set 1 (.int .i64 r1)).set 2 (.int .i64 r2')
            exact h9⟩
          refine rl 6 fun K hK => ?_
          go_simp
          refine hK.out _ _ ?_ (fun hHeld => ?_)
          · exact ⟨MF.out.2.1.cell 0, MF.out.2.1.cell 1, MF.out.2.2.1.cell 0, MF.out.2.2.1.cell 1, MF.out.2.2.1.cell 2, MF.out.2.2.1.cell 3, MF.out.2.2.1.cell 4⟩
          clear hK K
          refine wpAnyH_done (by kernel_rfl) ?_ _
          clear z0 z1 z2 q0 q1 q2 hHeld
          go_wp2_with fail
          go_meet
          case rel => exact ⟨tb, rfl, MF⟩
      · have HTL0 : Hid (w.heap.size ≤ wh1.heap.size) := MA2.out.1.size
        have MA18x : Hid (Below w.heap.size w (wh1.alloc (.cells #[.int .i64 0, .int .i64 0, .int .i64 0] 45)) ∧ Box (wh1.alloc (.cells #[.int .i64 0, .int .i64 0, .int .i64 0] 45)) (w.heap.size) 25 #[.slice pa v.n pc, .slice ja v.m jc] ∧ Box (wh1.alloc (.cells #[.int .i64 0, .int .i64 0, .int .i64 0] 45)) (w.heap.size + 1) 42 #[.int .i64 fp, .int .i64 fa, .int .i64 fw, .int .i64 lg, .slice ba nb bk] ∧ Box (wh1.alloc (.cells #[.int .i64 0, .int .i64 0, .int .i64 0] 45)) wh1.heap.size 45 #[.int .i64 0, .int .i64 0, .int .i64 0]) := ⟨MA2.out.1.alloc MA2.out.1.size _, MA2.out.2.1.alloc _, MA2.out.2.2.alloc _, Box.new _ _ _⟩
        have QA19 : Hid (PsAt 0 (wh1.alloc (.cells #[.int .i64 0, .int .i64 0, .int .i64 0] 45)) pa1 v.n v.P ∧ JsAt 0 (wh1.alloc (.cells #[.int .i64 0, .int .i64 0, .int .i64 0] 45)) ja1 v.m v.J) := ⟨QA3.out.1.mono (Nat.le_refl _) (bel1 _ _) (Nat.le_refl _), QA3.out.2.mono (Nat.le_refl _) (bel1 _ _) (Nat.le_refl _)⟩
        clear QA3
        clear MA2
        go_simp
        refine hK.out _ _ ?_ (fun hHeld => ?_)
        · exact ⟨MA18x.out.2.1.cell 0, MA18x.out.2.1.cell 1, MA18x.out.2.2.1.cell 0, MA18x.out.2.2.1.cell 1, MA18x.out.2.2.1.cell 2, MA18x.out.2.2.1.cell 3, MA18x.out.2.2.1.cell 4⟩
        clear hK K
        clear hHeld
        generalize wh1.alloc (.cells #[.int .i64 0, .int .i64 0, .int .i64 0] 45) = wh17 at MA18x QA19 ⊢
        generalize wh1.heap.size = tb at MA18x HTL0 ⊢
        have HTL : Hid (w.heap.size ≤ tb) := HTL0
        clear HTL0
        have MA18 : Hid (Below w.heap.size w wh17 ∧ Box wh17 (w.heap.size) 25 #[.slice pa v.n pc, .slice ja v.m jc] ∧ Box wh17 (w.heap.size + 1) 42 #[.int .i64 fp, .int .i64 fa, .int .i64 fw, .int .i64 lg, .slice ba nb bk] ∧ Box wh17 (tb) 45 #[.int .i64 0, .int .i64 0, .int .i64 0]) := MA18x
        clear MA18x
        refine rl 3 fun K hK => ?_
        go_simp
        refine (toTrain16 fp fa fw lg nb B ba bk _ hnb1 (H.out.2.2.1.mono (Nat.le_refl _) MA18.out.1 (Nat.le_refl _))).mono ?_
        rintro e wh20 ⟨bn, rfl, hB4, hb⟩
        have MA21 : Hid (Below w.heap.size w wh20 ∧ Box wh20 (w.heap.size) 25 #[.slice pa v.n pc, .slice ja v.m jc] ∧ Box wh20 (w.heap.size + 1) 42 #[.int .i64 fp, .int .i64 fa, .int .i64 fw, .int .i64 lg, .slice ba nb bk] ∧ Box wh20 (tb) 45 #[.int .i64 0, .int .i64 0, .int .i64 0]) := ⟨MA18.out.1.trans (hb.mono MA18.out.1.size), MA18.out.2.1.mono hb (Nat.le_refl _), MA18.out.2.2.1.mono hb (Nat.le_refl _), MA18.out.2.2.2.mono hb (Nat.le_refl _)⟩
        have QA22 : Hid (PsAt 0 wh20 pa1 v.n v.P ∧ JsAt 0 wh20 ja1 v.m v.J ∧ NsAt 2 0 wh20 (some ⟨bn, 0, none⟩) nb B) := ⟨(QA19.out.1.mono (Nat.le_refl _) hb (Nat.le_refl _)), (QA19.out.2.mono (Nat.le_refl _) hb (Nat.le_refl _)), (hB4.keep (Nat.zero_le _) (Nat.le_refl _) fun _ _ _ => rfl)⟩
        clear hb hB4 MA18 QA19
        go_wp2_with fail
        refine hK.out _ _ ?_ (fun hHeld => ?_)
        · exact ⟨MA21.out.2.1.cell 0, MA21.out.2.1.cell 1, MA21.out.2.2.1.cell 0, MA21.out.2.2.1.cell 1, MA21.out.2.2.1.cell 2, MA21.out.2.2.1.cell 3, MA21.out.2.2.1.cell 4⟩
        clear hK K
        refine rl 4 fun K hK => ?_
        go_simp
        refine (specTail19 pa1 v.n ja1 v.m fp fa fw lg nb B (some ⟨bn, 0, none⟩) nb _ hn1 hm1 hnb1 QA22.out.1 QA22.out.2.1 H.out.2.2.2.1 HNE2.out QA22.out.2.2).mono ?_
        rintro e wh23 ⟨he, hb⟩
        rw [HR.out.1, HR.out.2.1, HR.out.2.2] at he
        subst he
        have MA24 : Hid (Below w.heap.size w wh23 ∧ Box wh23 (w.heap.size) 25 #[.slice pa v.n pc, .slice ja v.m jc] ∧ Box wh23 (w.heap.size + 1) 42 #[.int .i64 fp, .int .i64 fa, .int .i64 fw, .int .i64 lg, .slice ba nb bk] ∧ Box wh23 (tb) 45 #[.int .i64 0, .int .i64 0, .int .i64 0]) := ⟨MA21.out.1.trans (hb.mono MA21.out.1.size), MA21.out.2.1.mono hb (Nat.le_refl _), MA21.out.2.2.1.mono hb (Nat.le_refl _), MA21.out.2.2.2.mono hb (Nat.le_refl _)⟩
        clear hb MA21 QA22
        go_wp2_with fail
        refine hK.out _ _ ?_ (fun hHeld => ?_)
        · exact ⟨MA24.out.2.1.cell 0, MA24.out.2.1.cell 1, MA24.out.2.2.1.cell 0, MA24.out.2.2.1.cell 1, MA24.out.2.2.1.cell 2, MA24.out.2.2.1.cell 3, MA24.out.2.2.1.cell 4⟩
        clear hK K
        have z0 : wh23.cell? ⟨tb, 0, none⟩ = some (.int .i64 0) := MA24.out.2.2.2.cell 0
        have z1 : wh23.cell? ⟨tb, 1, none⟩ = some (.int .i64 0) := MA24.out.2.2.2.cell 1
        have z2 : wh23.cell? ⟨tb, 2, none⟩ = some (.int .i64 0) := MA24.out.2.2.2.cell 2
        have q0 := MA24.out.2.2.2.free 0
        have q1 := MA24.out.2.2.2.free 1
        have q2 := MA24.out.2.2.2.free 2
        have e0 : w.heap.size ≠ tb := box_ne MA24.out.2.1 MA24.out.2.2.2 (by decide)
        have e1 : w.heap.size + 1 ≠ tb := box_ne MA24.out.2.2.1 MA24.out.2.2.2 (by decide)
        have MF : Hid (Below w.heap.size w (((wh23.setCell ⟨tb, 0, none⟩ (.int .i64 r0)).setCell ⟨tb, 1, none⟩ (.int .i64 r1)).setCell ⟨tb, 2, none⟩ (.int .i64 r2')) ∧ Box (((wh23.setCell ⟨tb, 0, none⟩ (.int .i64 r0)).setCell ⟨tb, 1, none⟩ (.int .i64 r1)).setCell ⟨tb, 2, none⟩ (.int .i64 r2')) (w.heap.size) 25 #[.slice pa v.n pc, .slice ja v.m jc] ∧ Box (((wh23.setCell ⟨tb, 0, none⟩ (.int .i64 r0)).setCell ⟨tb, 1, none⟩ (.int .i64 r1)).setCell ⟨tb, 2, none⟩ (.int .i64 r2')) (w.heap.size + 1) 42 #[.int .i64 fp, .int .i64 fa, .int .i64 fw, .int .i64 lg, .slice ba nb bk] ∧ Box (((wh23.setCell ⟨tb, 0, none⟩ (.int .i64 r0)).setCell ⟨tb, 1, none⟩ (.int .i64 r1)).setCell ⟨tb, 2, none⟩ (.int .i64 r2')) (tb) 45 #[.int .i64 r0, .int .i64 r1, .int .i64 r2']) := ⟨((MA24.out.1.setCell HTL.out _).setCell HTL.out _).setCell HTL.out _, ((MA24.out.2.1.other e0 _).other e0 _).other e0 _, ((MA24.out.2.2.1.other e1 _).other e1 _).other e1 _, by
          have h9 := ((MA24.out.2.2.2.set 0 (.int .i64 r0)).set 1 (.int .i64 r1)).set 2 (.int .i64 r2')
          exact h9⟩
        refine rl 6 fun K hK => ?_
        go_simp
        refine hK.out _ _ ?_ (fun hHeld => ?_)
        · exact ⟨MF.out.2.1.cell 0, MF.out.2.1.cell 1, MF.out.2.2.1.cell 0, MF.out.2.2.1.cell 1, MF.out.2.2.1.cell 2, MF.out.2.2.1.cell 3, MF.out.2.2.1.cell 4⟩
        clear hK K
        refine wpAnyH_done (by kernel_rfl) ?_ _
        clear z0 z1 z2 q0 q1 q2 hHeld
        go_wp2_with fail
        go_meet
        case rel => exact ⟨tb, rfl, MF⟩
    · have HTL0 : Hid (w.heap.size ≤ VD.heap.size) := MD.out.1.size
      have MA26x : Hid (Below w.heap.size w (VD.alloc (.cells #[.int .i64 0, .int .i64 0, .int .i64 0] 45)) ∧ Box (VD.alloc (.cells #[.int .i64 0, .int .i64 0, .int .i64 0] 45)) (w.heap.size) 25 #[.slice pa v.n pc, .slice ja v.m jc] ∧ Box (VD.alloc (.cells #[.int .i64 0, .int .i64 0, .int .i64 0] 45)) (w.heap.size + 1) 42 #[.int .i64 fp, .int .i64 fa, .int .i64 fw, .int .i64 lg, .slice ba nb bk] ∧ Box (VD.alloc (.cells #[.int .i64 0, .int .i64 0, .int .i64 0] 45)) VD.heap.size 45 #[.int .i64 0, .int .i64 0, .int .i64 0]) := ⟨MD.out.1.alloc MD.out.1.size _, MD.out.2.1.alloc _, MD.out.2.2.alloc _, Box.new _ _ _⟩
      clear MD
      go_simp
      refine hK.out _ _ ?_ (fun hHeld => ?_)
      · exact ⟨MA26x.out.2.1.cell 0, MA26x.out.2.1.cell 1, MA26x.out.2.2.1.cell 0, MA26x.out.2.2.1.cell 1, MA26x.out.2.2.1.cell 2, MA26x.out.2.2.1.cell 3, MA26x.out.2.2.1.cell 4⟩
      clear hK K
      clear hHeld
      generalize VD.alloc (.cells #[.int .i64 0, .int .i64 0, .int .i64 0] 45) = wh25 at MA26x  ⊢
      generalize VD.heap.size = tb at MA26x HTL0 ⊢
      have HTL : Hid (w.heap.size ≤ tb) := HTL0
      clear HTL0
      have MA26 : Hid (Below w.heap.size w wh25 ∧ Box wh25 (w.heap.size) 25 #[.slice pa v.n pc, .slice ja v.m jc] ∧ Box wh25 (w.heap.size + 1) 42 #[.int .i64 fp, .int .i64 fa, .int .i64 fw, .int .i64 lg, .slice ba nb bk] ∧ Box wh25 (tb) 45 #[.int .i64 0, .int .i64 0, .int .i64 0]) := MA26x
      clear MA26x
      refine rl 1 fun K hK => ?_
      go_simp
      refine (toNetR pa pc ja jc _ hn1 hm1 (H.out.1.mono (Nat.le_refl _) MA26.out.1 (Nat.le_refl _)) (H.out.2.1.mono (Nat.le_refl _) MA26.out.1 (Nat.le_refl _)) HNE.out).mono ?_
      rintro e wh28 ⟨pa1, ja1, rfl, hP3, hJ3, hb⟩
      have MA29 : Hid (Below w.heap.size w wh28 ∧ Box wh28 (w.heap.size) 25 #[.slice pa v.n pc, .slice ja v.m jc] ∧ Box wh28 (w.heap.size + 1) 42 #[.int .i64 fp, .int .i64 fa, .int .i64 fw, .int .i64 lg, .slice ba nb bk] ∧ Box wh28 (tb) 45 #[.int .i64 0, .int .i64 0, .int .i64 0]) := ⟨MA26.out.1.trans (hb.mono MA26.out.1.size), MA26.out.2.1.mono hb (Nat.le_refl _), MA26.out.2.2.1.mono hb (Nat.le_refl _), MA26.out.2.2.2.mono hb (Nat.le_refl _)⟩
      have QA30 : Hid (PsAt 0 wh28 pa1 v.n v.P ∧ JsAt 0 wh28 ja1 v.m v.J) := ⟨hP3, hJ3⟩
      clear hb hP3 hJ3 MA26
      go_wp2_with fail
      refine hK.out _ _ ?_ (fun hHeld => ?_)
      · exact ⟨MA29.out.2.1.cell 0, MA29.out.2.1.cell 1, MA29.out.2.2.1.cell 0, MA29.out.2.2.1.cell 1, MA29.out.2.2.1.cell 2, MA29.out.2.2.1.cell 3, MA29.out.2.2.1.cell 4⟩
      clear hK K
      refine rl 3 fun K hK => ?_
      go_simp
      refine (toTrain16 fp fa fw lg nb B ba bk _ hnb1 (H.out.2.2.1.mono (Nat.le_refl _) MA29.out.1 (Nat.le_refl _))).mono ?_
      rintro e wh31 ⟨bn, rfl, hB4, hb⟩
      have MA32 : Hid (Below w.heap.size w wh31 ∧ Box wh31 (w.heap.size) 25 #[.slice pa v.n pc, .slice ja v.m jc] ∧ Box wh31 (w.heap.size + 1) 42 #[.int .i64 fp, .int .i64 fa, .int .i64 fw, .int .i64 lg, .slice ba nb bk] ∧ Box wh31 (tb) 45 #[.int .i64 0, .int .i64 0, .int .i64 0]) := ⟨MA29.out.1.trans (hb.mono MA29.out.1.size), MA29.out.2.1.mono hb (Nat.le_refl _), MA29.out.2.2.1.mono hb (Nat.le_refl _), MA29.out.2.2.2.mono hb (Nat.le_refl _)⟩
      have QA33 : Hid (PsAt 0 wh31 pa1 v.n v.P ∧ JsAt 0 wh31 ja1 v.m v.J ∧ NsAt 2 0 wh31 (some ⟨bn, 0, none⟩) nb B) := ⟨(QA30.out.1.mono (Nat.le_refl _) hb (Nat.le_refl _)), (QA30.out.2.mono (Nat.le_refl _) hb (Nat.le_refl _)), (hB4.keep (Nat.zero_le _) (Nat.le_refl _) fun _ _ _ => rfl)⟩
      clear hb hB4 MA29 QA30
      go_wp2_with fail
      refine hK.out _ _ ?_ (fun hHeld => ?_)
      · exact ⟨MA32.out.2.1.cell 0, MA32.out.2.1.cell 1, MA32.out.2.2.1.cell 0, MA32.out.2.2.1.cell 1, MA32.out.2.2.1.cell 2, MA32.out.2.2.1.cell 3, MA32.out.2.2.1.cell 4⟩
      clear hK K
      refine rl 4 fun K hK => ?_
      go_simp
      refine (specTail19 pa1 v.n ja1 v.m fp fa fw lg nb B (some ⟨bn, 0, none⟩) nb _ hn1 hm1 hnb1 QA33.out.1 QA33.out.2.1 H.out.2.2.2.1 HNE2.out QA33.out.2.2).mono ?_
      rintro e wh34 ⟨he, hb⟩
      rw [HR.out.1, HR.out.2.1, HR.out.2.2] at he
      subst he
      have MA35 : Hid (Below w.heap.size w wh34 ∧ Box wh34 (w.heap.size) 25 #[.slice pa v.n pc, .slice ja v.m jc] ∧ Box wh34 (w.heap.size + 1) 42 #[.int .i64 fp, .int .i64 fa, .int .i64 fw, .int .i64 lg, .slice ba nb bk] ∧ Box wh34 (tb) 45 #[.int .i64 0, .int .i64 0, .int .i64 0]) := ⟨MA32.out.1.trans (hb.mono MA32.out.1.size), MA32.out.2.1.mono hb (Nat.le_refl _), MA32.out.2.2.1.mono hb (Nat.le_refl _), MA32.out.2.2.2.mono hb (Nat.le_refl _)⟩
      clear hb MA32 QA33
      go_wp2_with fail
      refine hK.out _ _ ?_ (fun hHeld => ?_)
      · exact ⟨MA35.out.2.1.cell 0, MA35.out.2.1.cell 1, MA35.out.2.2.1.cell 0, MA35.out.2.2.1.cell 1, MA35.out.2.2.1.cell 2, MA35.out.2.2.1.cell 3, MA35.out.2.2.1.cell 4⟩
      clear hK K
      have z0 : wh34.cell? ⟨tb, 0, none⟩ = some (.int .i64 0) := MA35.out.2.2.2.cell 0
      have z1 : wh34.cell? ⟨tb, 1, none⟩ = some (.int .i64 0) := MA35.out.2.2.2.cell 1
      have z2 : wh34.cell? ⟨tb, 2, none⟩ = some (.int .i64 0) := MA35.out.2.2.2.cell 2
      have q0 := MA35.out.2.2.2.free 0
      have q1 := MA35.out.2.2.2.free 1
      have q2 := MA35.out.2.2.2.free 2
      have e0 : w.heap.size ≠ tb := box_ne MA35.out.2.1 MA35.out.2.2.2 (by decide)
      have e1 : w.heap.size + 1 ≠ tb := box_ne MA35.out.2.2.1 MA35.out.2.2.2 (by decide)
      have MF : Hid (Below w.heap.size w (((wh34.setCell ⟨tb, 0, none⟩ (.int .i64 r0)).setCell ⟨tb, 1, none⟩ (.int .i64 r1)).setCell ⟨tb, 2, none⟩ (.int .i64 r2')) ∧ Box (((wh34.setCell ⟨tb, 0, none⟩ (.int .i64 r0)).setCell ⟨tb, 1, none⟩ (.int .i64 r1)).setCell ⟨tb, 2, none⟩ (.int .i64 r2')) (w.heap.size) 25 #[.slice pa v.n pc, .slice ja v.m jc] ∧ Box (((wh34.setCell ⟨tb, 0, none⟩ (.int .i64 r0)).setCell ⟨tb, 1, none⟩ (.int .i64 r1)).setCell ⟨tb, 2, none⟩ (.int .i64 r2')) (w.heap.size + 1) 42 #[.int .i64 fp, .int .i64 fa, .int .i64 fw, .int .i64 lg, .slice ba nb bk] ∧ Box (((wh34.setCell ⟨tb, 0, none⟩ (.int .i64 r0)).setCell ⟨tb, 1, none⟩ (.int .i64 r1)).setCell ⟨tb, 2, none⟩ (.int .i64 r2')) (tb) 45 #[.int .i64 r0, .int .i64 r1, .int .i64 r2']) := ⟨((MA35.out.1.setCell HTL.out _).setCell HTL.out _).setCell HTL.out _, ((MA35.out.2.1.other e0 _).other e0 _).other e0 _, ((MA35.out.2.2.1.other e1 _).other e1 _).other e1 _, by
        have h9 := ((MA35.out.2.2.2.set 0 (.int .i64 r0)).set 1 (.int .i64 r1)).set 2 (.int .i64 r2')
        exact h9⟩
      refine rl 6 fun K hK => ?_
      go_simp
      refine hK.out _ _ ?_ (fun hHeld => ?_)
      · exact ⟨MF.out.2.1.cell 0, MF.out.2.1.cell 1, MF.out.2.2.1.cell 0, MF.out.2.2.1.cell 1, MF.out.2.2.1.cell 2, MF.out.2.2.1.cell 3, MF.out.2.2.1.cell 4⟩
      clear hK K
      refine wpAnyH_done (by kernel_rfl) ?_ _
      clear z0 z1 z2 q0 q1 q2 hHeld
      go_wp2_with fail
      go_meet
      case rel => exact ⟨tb, rfl, MF⟩
  case rest =>
    obtain ⟨tb, rfl, M6⟩ := hcut
    clear S2
    generalize wc = w6 at M6 ⊢
    have a0 : w6.cell? ⟨w.heap.size, 0, none⟩ = some (.slice pa v.n pc) := M6.out.2.1.cell 0
    have a1 : w6.cell? ⟨w.heap.size, 1, none⟩ = some (.slice ja v.m jc) := M6.out.2.1.cell 1
    have b0 : w6.cell? ⟨w.heap.size + 1, 0, none⟩ = some (.int .i64 fp) := M6.out.2.2.1.cell 0
    have b1 : w6.cell? ⟨w.heap.size + 1, 1, none⟩ = some (.int .i64 fa) := M6.out.2.2.1.cell 1
    have b2 : w6.cell? ⟨w.heap.size + 1, 2, none⟩ = some (.int .i64 fw) := M6.out.2.2.1.cell 2
    have b3 : w6.cell? ⟨w.heap.size + 1, 3, none⟩ = some (.int .i64 lg) := M6.out.2.2.1.cell 3
    have b4 : w6.cell? ⟨w.heap.size + 1, 4, none⟩ = some (.slice ba nb bk) := M6.out.2.2.1.cell 4
    have c0 : w6.cell? ⟨tb, 0, none⟩ = some (.int .i64 r0) := M6.out.2.2.2.cell 0
    have c1 : w6.cell? ⟨tb, 1, none⟩ = some (.int .i64 r1) := M6.out.2.2.2.cell 1
    have c2 : w6.cell? ⟨tb, 2, none⟩ = some (.int .i64 r2') := M6.out.2.2.2.cell 2
    go_wp2_with fail
    clear a0 a1 b0 b1 b2 b3 b4 c0 c1 c2
    refine (toNetR pa pc ja jc w6 hn1 hm1 (H.out.1.mono (Nat.le_refl _) M6.out.1 (Nat.le_refl _)) (H.out.2.1.mono (Nat.le_refl _) M6.out.1 (Nat.le_refl _)) HNE.out).mono ?_
    rintro e w7 ⟨pa2, ja2, rfl, hP7, hJ7, hb7⟩
    have M7 : Hid (Below w.heap.size w w7 ∧ Box w7 (w.heap.size) 25 #[.slice pa v.n pc, .slice ja v.m jc] ∧ Box w7 (w.heap.size + 1) 42 #[.int .i64 fp, .int .i64 fa, .int .i64 fw, .int .i64 lg, .slice ba nb bk] ∧ Box w7 (tb) 45 #[.int .i64 r0, .int .i64 r1, .int .i64 r2']) := ⟨M6.out.1.trans (hb7.mono M6.out.1.size), M6.out.2.1.mono hb7 (Nat.le_refl _), M6.out.2.2.1.mono hb7 (Nat.le_refl _), M6.out.2.2.2.mono hb7 (Nat.le_refl _)⟩
    have M8 : Hid (Below w.heap.size w (w7.alloc (.cells #[.slice pa2 v.n v.n, .slice ja2 v.m v.m] 32)) ∧ Box (w7.alloc (.cells #[.slice pa2 v.n v.n, .slice ja2 v.m v.m] 32)) (w.heap.size) 25 #[.slice pa v.n pc, .slice ja v.m jc] ∧ Box (w7.alloc (.cells #[.slice pa2 v.n v.n, .slice ja2 v.m v.m] 32)) (w.heap.size + 1) 42 #[.int .i64 fp, .int .i64 fa, .int .i64 fw, .int .i64 lg, .slice ba nb bk] ∧ Box (w7.alloc (.cells #[.slice pa2 v.n v.n, .slice ja2 v.m v.m] 32)) (tb) 45 #[.int .i64 r0, .int .i64 r1, .int .i64 r2'] ∧ Box (w7.alloc (.cells #[.slice pa2 v.n v.n, .slice ja2 v.m v.m] 32)) w7.heap.size 32 #[.slice pa2 v.n v.n, .slice ja2 v.m v.m]) := ⟨M7.out.1.alloc M7.out.1.size _, M7.out.2.1.alloc _, M7.out.2.2.1.alloc _, M7.out.2.2.2.alloc _, Box.new _ _ _⟩
    have Q8 : Hid (PsAt 0 (w7.alloc (.cells #[.slice pa2 v.n v.n, .slice ja2 v.m v.m] 32)) pa2 v.n v.P ∧ JsAt 0 (w7.alloc (.cells #[.slice pa2 v.n v.n, .slice ja2 v.m v.m] 32)) ja2 v.m v.J) := ⟨hP7.mono (Nat.le_refl _) (bel1 _ _) (Nat.le_refl _), hJ7.mono (Nat.le_refl _) (bel1 _ _) (Nat.le_refl _)⟩
    clear hb7 hP7 hJ7 M6 M7
    go_upto_region 10 with fail
    generalize (w7.alloc (.cells #[.slice pa2 v.n v.n, .slice ja2 v.m v.m] 32)) = V8 at M8 Q8 ⊢
    generalize w7.heap.size = xb at M8 ⊢
    have a0 : V8.cell? ⟨w.heap.size, 0, none⟩ = some (.slice pa v.n pc) := M8.out.2.1.cell 0
    have a1 : V8.cell? ⟨w.heap.size, 1, none⟩ = some (.slice ja v.m jc) := M8.out.2.1.cell 1
    have b0 : V8.cell? ⟨w.heap.size + 1, 0, none⟩ = some (.int .i64 fp) := M8.out.2.2.1.cell 0
    have b1 : V8.cell? ⟨w.heap.size + 1, 1, none⟩ = some (.int .i64 fa) := M8.out.2.2.1.cell 1
    have b2 : V8.cell? ⟨w.heap.size + 1, 2, none⟩ = some (.int .i64 fw) := M8.out.2.2.1.cell 2
    have b3 : V8.cell? ⟨w.heap.size + 1, 3, none⟩ = some (.int .i64 lg) := M8.out.2.2.1.cell 3
    have b4 : V8.cell? ⟨w.heap.size + 1, 4, none⟩ = some (.slice ba nb bk) := M8.out.2.2.1.cell 4
    have c0 : V8.cell? ⟨tb, 0, none⟩ = some (.int .i64 r0) := M8.out.2.2.2.1.cell 0
    have c1 : V8.cell? ⟨tb, 1, none⟩ = some (.int .i64 r1) := M8.out.2.2.2.1.cell 1
    have c2 : V8.cell? ⟨tb, 2, none⟩ = some (.int .i64 r2') := M8.out.2.2.2.1.cell 2
    have d0 : V8.cell? ⟨xb, 0, none⟩ = some (.slice pa2 v.n v.n) := M8.out.2.2.2.2.cell 0
    have d1 : V8.cell? ⟨xb, 1, none⟩ = some (.slice ja2 v.m v.m) := M8.out.2.2.2.2.cell 1
    go_wp2_with fail
    clear a0 a1 b0 b1 b2 b3 b4 c0 c1 c2 d0 d1
    refine (toTrain16 fp fa fw lg nb B ba bk V8 hnb1 (H.out.2.2.1.mono (Nat.le_refl _) M8.out.1 (Nat.le_refl _))).mono ?_
    rintro e w9 ⟨bq, rfl, hB9, hb9⟩
    have M9 : Hid (Below w.heap.size w w9 ∧ Box w9 (w.heap.size) 25 #[.slice pa v.n pc, .slice ja v.m jc] ∧ Box w9 (w.heap.size + 1) 42 #[.int .i64 fp, .int .i64 fa, .int .i64 fw, .int .i64 lg, .slice ba nb bk] ∧ Box w9 (tb) 45 #[.int .i64 r0, .int .i64 r1, .int .i64 r2'] ∧ Box w9 (xb) 32 #[.slice pa2 v.n v.n, .slice ja2 v.m v.m]) := ⟨M8.out.1.trans (hb9.mono M8.out.1.size), M8.out.2.1.mono hb9 (Nat.le_refl _), M8.out.2.2.1.mono hb9 (Nat.le_refl _), M8.out.2.2.2.1.mono hb9 (Nat.le_refl _), M8.out.2.2.2.2.mono hb9 (Nat.le_refl _)⟩
    have M10 : Hid (Below w.heap.size w (w9.alloc (.cells #[.int .i64 fp, .int .i64 fa, .int .i64 fw, .int .i64 lg, .slice (some ⟨bq, 0, none⟩) nb nb] 48)) ∧ Box (w9.alloc (.cells #[.int .i64 fp, .int .i64 fa, .int .i64 fw, .int .i64 lg, .slice (some ⟨bq, 0, none⟩) nb nb] 48)) (w.heap.size) 25 #[.slice pa v.n pc, .slice ja v.m jc] ∧ Box (w9.alloc (.cells #[.int .i64 fp, .int .i64 fa, .int .i64 fw, .int .i64 lg, .slice (some ⟨bq, 0, none⟩) nb nb] 48)) (w.heap.size + 1) 42 #[.int .i64 fp, .int .i64 fa, .int .i64 fw, .int .i64 lg, .slice ba nb bk] ∧ Box (w9.alloc (.cells #[.int .i64 fp, .int .i64 fa, .int .i64 fw, .int .i64 lg, .slice (some ⟨bq, 0, none⟩) nb nb] 48)) (tb) 45 #[.int .i64 r0, .int .i64 r1, .int .i64 r2'] ∧ Box (w9.alloc (.cells #[.int .i64 fp, .int .i64 fa, .int .i64 fw, .int .i64 lg, .slice (some ⟨bq, 0, none⟩) nb nb] 48)) (xb) 32 #[.slice pa2 v.n v.n, .slice ja2 v.m v.m] ∧ Box (w9.alloc (.cells #[.int .i64 fp, .int .i64 fa, .int .i64 fw, .int .i64 lg, .slice (some ⟨bq, 0, none⟩) nb nb] 48)) w9.heap.size 48 #[.int .i64 fp, .int .i64 fa, .int .i64 fw, .int .i64 lg, .slice (some ⟨bq, 0, none⟩) nb nb]) := ⟨M9.out.1.alloc M9.out.1.size _, M9.out.2.1.alloc _, M9.out.2.2.1.alloc _, M9.out.2.2.2.1.alloc _, M9.out.2.2.2.2.alloc _, Box.new _ _ _⟩
    have Q10 : Hid (PsAt 0 (w9.alloc (.cells #[.int .i64 fp, .int .i64 fa, .int .i64 fw, .int .i64 lg, .slice (some ⟨bq, 0, none⟩) nb nb] 48)) pa2 v.n v.P ∧ JsAt 0 (w9.alloc (.cells #[.int .i64 fp, .int .i64 fa, .int .i64 fw, .int .i64 lg, .slice (some ⟨bq, 0, none⟩) nb nb] 48)) ja2 v.m v.J ∧ NsAt 2 0 (w9.alloc (.cells #[.int .i64 fp, .int .i64 fa, .int .i64 fw, .int .i64 lg, .slice (some ⟨bq, 0, none⟩) nb nb] 48)) (some ⟨bq, 0, none⟩) nb B) := ⟨(Q8.out.1.mono (Nat.le_refl _) hb9 (Nat.le_refl _)).mono (Nat.le_refl _) (bel1 _ _) (Nat.le_refl _), (Q8.out.2.mono (Nat.le_refl _) hb9 (Nat.le_refl _)).mono (Nat.le_refl _) (bel1 _ _) (Nat.le_refl _), hB9.mono (Nat.zero_le _) (bel1 _ _) (Nat.le_refl _)⟩
    clear hb9 hB9 M8 M9 Q8
    go_upto_region 11 with fail
    generalize (w9.alloc (.cells #[.int .i64 fp, .int .i64 fa, .int .i64 fw, .int .i64 lg, .slice (some ⟨bq, 0, none⟩) nb nb] 48)) = V10 at M10 Q10 ⊢
    generalize w9.heap.size = yb at M10 ⊢
    have a0 : V10.cell? ⟨w.heap.size, 0, none⟩ = some (.slice pa v.n pc) := M10.out.2.1.cell 0
    have a1 : V10.cell? ⟨w.heap.size, 1, none⟩ = some (.slice ja v.m jc) := M10.out.2.1.cell 1
    have b0 : V10.cell? ⟨w.heap.size + 1, 0, none⟩ = some (.int .i64 fp) := M10.out.2.2.1.cell 0
    have b1 : V10.cell? ⟨w.heap.size + 1, 1, none⟩ = some (.int .i64 fa) := M10.out.2.2.1.cell 1
    have b2 : V10.cell? ⟨w.heap.size + 1, 2, none⟩ = some (.int .i64 fw) := M10.out.2.2.1.cell 2
    have b3 : V10.cell? ⟨w.heap.size + 1, 3, none⟩ = some (.int .i64 lg) := M10.out.2.2.1.cell 3
    have b4 : V10.cell? ⟨w.heap.size + 1, 4, none⟩ = some (.slice ba nb bk) := M10.out.2.2.1.cell 4
    have c0 : V10.cell? ⟨tb, 0, none⟩ = some (.int .i64 r0) := M10.out.2.2.2.1.cell 0
    have c1 : V10.cell? ⟨tb, 1, none⟩ = some (.int .i64 r1) := M10.out.2.2.2.1.cell 1
    have c2 : V10.cell? ⟨tb, 2, none⟩ = some (.int .i64 r2') := M10.out.2.2.2.1.cell 2
    have d0 : V10.cell? ⟨xb, 0, none⟩ = some (.slice pa2 v.n v.n) := M10.out.2.2.2.2.1.cell 0
    have d1 : V10.cell? ⟨xb, 1, none⟩ = some (.slice ja2 v.m v.m) := M10.out.2.2.2.2.1.cell 1
    have e0 : V10.cell? ⟨yb, 0, none⟩ = some (.int .i64 fp) := M10.out.2.2.2.2.2.cell 0
    have e1 : V10.cell? ⟨yb, 1, none⟩ = some (.int .i64 fa) := M10.out.2.2.2.2.2.cell 1
    have e2 : V10.cell? ⟨yb, 2, none⟩ = some (.int .i64 fw) := M10.out.2.2.2.2.2.cell 2
    have e3 : V10.cell? ⟨yb, 3, none⟩ = some (.int .i64 lg) := M10.out.2.2.2.2.2.cell 3
    have e4 : V10.cell? ⟨yb, 4, none⟩ = some (.slice (some ⟨bq, 0, none⟩) nb nb) := M10.out.2.2.2.2.2.cell 4
    go_wp2_with fail
    clear a0 a1 b0 b1 b2 b3 b4 c0 c1 c2 d0 d1 e0 e1 e2 e3 e4
    refine (implTail20 pa2 v.n ja2 v.m fp fa fw lg nb B bq 0 nb V10 hn1 hm1 hnb1 (Nat.le_refl _) hn (Nat.le_refl _) hm Q10.out.1 Q10.out.2.1 H.out.2.2.2.1 HNE2.out Q10.out.2.2).mono ?_
    rintro e w11 ⟨he, hb11⟩
    rw [HR.out.1, HR.out.2.1, HR.out.2.2] at he
    subst he
    have M11 : Hid (Below w.heap.size w w11 ∧ Box w11 (w.heap.size) 25 #[.slice pa v.n pc, .slice ja v.m jc] ∧ Box w11 (w.heap.size + 1) 42 #[.int .i64 fp, .int .i64 fa, .int .i64 fw, .int .i64 lg, .slice ba nb bk] ∧ Box w11 (tb) 45 #[.int .i64 r0, .int .i64 r1, .int .i64 r2'] ∧ Box w11 (xb) 32 #[.slice pa2 v.n v.n, .slice ja2 v.m v.m] ∧ Box w11 (yb) 48 #[.int .i64 fp, .int .i64 fa, .int .i64 fw, .int .i64 lg, .slice (some ⟨bq, 0, none⟩) nb nb]) := ⟨M10.out.1.trans (hb11.mono M10.out.1.size), M10.out.2.1.mono hb11 (Nat.le_refl _), M10.out.2.2.1.mono hb11 (Nat.le_refl _), M10.out.2.2.2.1.mono hb11 (Nat.le_refl _), M10.out.2.2.2.2.1.mono hb11 (Nat.le_refl _), M10.out.2.2.2.2.2.mono hb11 (Nat.le_refl _)⟩
    have M12 : Hid (Below w.heap.size w (w11.alloc (.cells #[.int .i64 r0, .int .i64 r1, .int .i64 r2'] 45)) ∧ Box (w11.alloc (.cells #[.int .i64 r0, .int .i64 r1, .int .i64 r2'] 45)) (w.heap.size) 25 #[.slice pa v.n pc, .slice ja v.m jc] ∧ Box (w11.alloc (.cells #[.int .i64 r0, .int .i64 r1, .int .i64 r2'] 45)) (w.heap.size + 1) 42 #[.int .i64 fp, .int .i64 fa, .int .i64 fw, .int .i64 lg, .slice ba nb bk] ∧ Box (w11.alloc (.cells #[.int .i64 r0, .int .i64 r1, .int .i64 r2'] 45)) (tb) 45 #[.int .i64 r0, .int .i64 r1, .int .i64 r2'] ∧ Box (w11.alloc (.cells #[.int .i64 r0, .int .i64 r1, .int .i64 r2'] 45)) (xb) 32 #[.slice pa2 v.n v.n, .slice ja2 v.m v.m] ∧ Box (w11.alloc (.cells #[.int .i64 r0, .int .i64 r1, .int .i64 r2'] 45)) (yb) 48 #[.int .i64 fp, .int .i64 fa, .int .i64 fw, .int .i64 lg, .slice (some ⟨bq, 0, none⟩) nb nb] ∧ Box (w11.alloc (.cells #[.int .i64 r0, .int .i64 r1, .int .i64 r2'] 45)) w11.heap.size 45 #[.int .i64 r0, .int .i64 r1, .int .i64 r2']) := ⟨M11.out.1.alloc M11.out.1.size _, M11.out.2.1.alloc _, M11.out.2.2.1.alloc _, M11.out.2.2.2.1.alloc _, M11.out.2.2.2.2.1.alloc _, M11.out.2.2.2.2.2.alloc _, Box.new _ _ _⟩
    have Q11 : Hid (PsAt 0 w11 pa2 v.n v.P ∧ JsAt 0 w11 ja2 v.m v.J ∧ NsAt 2 0 w11 (some ⟨bq, 0, none⟩) nb B) := ⟨(Q10.out.1.mono (Nat.le_refl _) hb11 (Nat.le_refl _)), (Q10.out.2.1.mono (Nat.le_refl _) hb11 (Nat.le_refl _)), (Q10.out.2.2.mono (Nat.le_refl _) hb11 (Nat.le_refl _))⟩
    have Q12 : Hid (PsAt 0 (w11.alloc (.cells #[.int .i64 r0, .int .i64 r1, .int .i64 r2'] 45)) pa2 v.n v.P ∧ JsAt 0 (w11.alloc (.cells #[.int .i64 r0, .int .i64 r1, .int .i64 r2'] 45)) ja2 v.m v.J ∧ NsAt 2 0 (w11.alloc (.cells #[.int .i64 r0, .int .i64 r1, .int .i64 r2'] 45)) (some ⟨bq, 0, none⟩) nb B) := ⟨(Q11.out.1.mono (Nat.le_refl _) (bel1 _ _) (Nat.le_refl _)), (Q11.out.2.1.mono (Nat.le_refl _) (bel1 _ _) (Nat.le_refl _)), (Q11.out.2.2.mono (Nat.le_refl _) (bel1 _ _) (Nat.le_refl _))⟩
    clear hb11 M10 M11 Q10 Q11
    go_upto_region 12 with fail
    generalize (w11.alloc (.cells #[.int .i64 r0, .int .i64 r1, .int .i64 r2'] 45)) = V12 at M12 Q12 ⊢
    generalize w11.heap.size = gb at M12 ⊢
    have a0 : V12.cell? ⟨w.heap.size, 0, none⟩ = some (.slice pa v.n pc) := M12.out.2.1.cell 0
    have a1 : V12.cell? ⟨w.heap.size, 1, none⟩ = some (.slice ja v.m jc) := M12.out.2.1.cell 1
    have b0 : V12.cell? ⟨w.heap.size + 1, 0, none⟩ = some (.int .i64 fp) := M12.out.2.2.1.cell 0
    have b1 : V12.cell? ⟨w.heap.size + 1, 1, none⟩ = some (.int .i64 fa) := M12.out.2.2.1.cell 1
    have b2 : V12.cell? ⟨w.heap.size + 1, 2, none⟩ = some (.int .i64 fw) := M12.out.2.2.1.cell 2
    have b3 : V12.cell? ⟨w.heap.size + 1, 3, none⟩ = some (.int .i64 lg) := M12.out.2.2.1.cell 3
    have b4 : V12.cell? ⟨w.heap.size + 1, 4, none⟩ = some (.slice ba nb bk) := M12.out.2.2.1.cell 4
    have c0 : V12.cell? ⟨tb, 0, none⟩ = some (.int .i64 r0) := M12.out.2.2.2.1.cell 0
    have c1 : V12.cell? ⟨tb, 1, none⟩ = some (.int .i64 r1) := M12.out.2.2.2.1.cell 1
    have c2 : V12.cell? ⟨tb, 2, none⟩ = some (.int .i64 r2') := M12.out.2.2.2.1.cell 2
    have d0 : V12.cell? ⟨xb, 0, none⟩ = some (.slice pa2 v.n v.n) := M12.out.2.2.2.2.1.cell 0
    have d1 : V12.cell? ⟨xb, 1, none⟩ = some (.slice ja2 v.m v.m) := M12.out.2.2.2.2.1.cell 1
    have e0 : V12.cell? ⟨yb, 0, none⟩ = some (.int .i64 fp) := M12.out.2.2.2.2.2.1.cell 0
    have e1 : V12.cell? ⟨yb, 1, none⟩ = some (.int .i64 fa) := M12.out.2.2.2.2.2.1.cell 1
    have e2 : V12.cell? ⟨yb, 2, none⟩ = some (.int .i64 fw) := M12.out.2.2.2.2.2.1.cell 2
    have e3 : V12.cell? ⟨yb, 3, none⟩ = some (.int .i64 lg) := M12.out.2.2.2.2.2.1.cell 3
    have e4 : V12.cell? ⟨yb, 4, none⟩ = some (.slice (some ⟨bq, 0, none⟩) nb nb) := M12.out.2.2.2.2.2.1.cell 4
    have f0 : V12.cell? ⟨gb, 0, none⟩ = some (.int .i64 r0) := M12.out.2.2.2.2.2.2.cell 0
    have f1 : V12.cell? ⟨gb, 1, none⟩ = some (.int .i64 r1) := M12.out.2.2.2.2.2.2.cell 1
    have f2 : V12.cell? ⟨gb, 2, none⟩ = some (.int .i64 r2') := M12.out.2.2.2.2.2.2.cell 2
    go_wp2_with fail
    clear a0 a1 b0 b1 b2 b3 b4 c0 c1 c2 d0 d1 e0 e1 e2 e3 e4 f0 f1 f2
    refine (eqSpot21 r0 r1 r2' V12).mono ?_
    rintro e w13 ⟨rfl, hb13⟩
    have M13 : Hid (Below w.heap.size w w13 ∧ Box w13 (w.heap.size) 25 #[.slice pa v.n pc, .slice ja v.m jc] ∧ Box w13 (w.heap.size + 1) 42 #[.int .i64 fp, .int .i64 fa, .int .i64 fw, .int .i64 lg, .slice ba nb bk] ∧ Box w13 (tb) 45 #[.int .i64 r0, .int .i64 r1, .int .i64 r2'] ∧ Box w13 (xb) 32 #[.slice pa2 v.n v.n, .slice ja2 v.m v.m] ∧ Box w13 (yb) 48 #[.int .i64 fp, .int .i64 fa, .int .i64 fw, .int .i64 lg, .slice (some ⟨bq, 0, none⟩) nb nb] ∧ Box w13 (gb) 45 #[.int .i64 r0, .int .i64 r1, .int .i64 r2']) := ⟨M12.out.1.trans (hb13.mono M12.out.1.size), M12.out.2.1.mono hb13 (Nat.le_refl _), M12.out.2.2.1.mono hb13 (Nat.le_refl _), M12.out.2.2.2.1.mono hb13 (Nat.le_refl _), M12.out.2.2.2.2.1.mono hb13 (Nat.le_refl _), M12.out.2.2.2.2.2.1.mono hb13 (Nat.le_refl _), M12.out.2.2.2.2.2.2.mono hb13 (Nat.le_refl _)⟩
    have MD : Hid (Below w.heap.size w w13.drew ∧ Box w13.drew (w.heap.size) 25 #[.slice pa v.n pc, .slice ja v.m jc] ∧ Box w13.drew (w.heap.size + 1) 42 #[.int .i64 fp, .int .i64 fa, .int .i64 fw, .int .i64 lg, .slice ba nb bk] ∧ Box w13.drew (tb) 45 #[.int .i64 r0, .int .i64 r1, .int .i64 r2'] ∧ Box w13.drew (xb) 32 #[.slice pa2 v.n v.n, .slice ja2 v.m v.m] ∧ Box w13.drew (yb) 48 #[.int .i64 fp, .int .i64 fa, .int .i64 fw, .int .i64 lg, .slice (some ⟨bq, 0, none⟩) nb nb] ∧ Box w13.drew (gb) 45 #[.int .i64 r0, .int .i64 r1, .int .i64 r2']) := ⟨M13.out.1.drew, M13.out.2.1.drew, M13.out.2.2.1.drew, M13.out.2.2.2.1.drew, M13.out.2.2.2.2.1.drew, M13.out.2.2.2.2.2.1.drew, M13.out.2.2.2.2.2.2.drew⟩
    have QD0 : Hid (PsAt 0 w13 pa2 v.n v.P ∧ JsAt 0 w13 ja2 v.m v.J ∧ NsAt 2 0 w13 (some ⟨bq, 0, none⟩) nb B) := ⟨(Q12.out.1.mono (Nat.le_refl _) hb13 (Nat.le_refl _)), (Q12.out.2.1.mono (Nat.le_refl _) hb13 (Nat.le_refl _)), (Q12.out.2.2.mono (Nat.le_refl _) hb13 (Nat.le_refl _))⟩
    have QD : Hid (PsAt 0 w13.drew pa2 v.n v.P ∧ JsAt 0 w13.drew ja2 v.m v.J ∧ NsAt 2 0 w13.drew (some ⟨bq, 0, none⟩) nb B) := ⟨(QD0.out.1.mono (Nat.le_refl _) (Below.refl w13.heap.size w13).drew (Nat.le_refl _)), (QD0.out.2.1.mono (Nat.le_refl _) (Below.refl w13.heap.size w13).drew (Nat.le_refl _)), (QD0.out.2.2.mono (Nat.le_refl _) (Below.refl w13.heap.size w13).drew (Nat.le_refl _))⟩
    clear hb13 M12 Q12 QD0
    have a0 : w13.cell? ⟨w.heap.size, 0, none⟩ = some (.slice pa v.n pc) := M13.out.2.1.cell 0
    have a1 : w13.cell? ⟨w.heap.size, 1, none⟩ = some (.slice ja v.m jc) := M13.out.2.1.cell 1
    have b0 : w13.cell? ⟨w.heap.size + 1, 0, none⟩ = some (.int .i64 fp) := M13.out.2.2.1.cell 0
    have b1 : w13.cell? ⟨w.heap.size + 1, 1, none⟩ = some (.int .i64 fa) := M13.out.2.2.1.cell 1
    have b2 : w13.cell? ⟨w.heap.size + 1, 2, none⟩ = some (.int .i64 fw) := M13.out.2.2.1.cell 2
    have b3 : w13.cell? ⟨w.heap.size + 1, 3, none⟩ = some (.int .i64 lg) := M13.out.2.2.1.cell 3
    have b4 : w13.cell? ⟨w.heap.size + 1, 4, none⟩ = some (.slice ba nb bk) := M13.out.2.2.1.cell 4
    have c0 : w13.cell? ⟨tb, 0, none⟩ = some (.int .i64 r0) := M13.out.2.2.2.1.cell 0
    have c1 : w13.cell? ⟨tb, 1, none⟩ = some (.int .i64 r1) := M13.out.2.2.2.1.cell 1
    have c2 : w13.cell? ⟨tb, 2, none⟩ = some (.int .i64 r2') := M13.out.2.2.2.1.cell 2
    have d0 : w13.cell? ⟨xb, 0, none⟩ = some (.slice pa2 v.n v.n) := M13.out.2.2.2.2.1.cell 0
    have d1 : w13.cell? ⟨xb, 1, none⟩ = some (.slice ja2 v.m v.m) := M13.out.2.2.2.2.1.cell 1
    have e0 : w13.cell? ⟨yb, 0, none⟩ = some (.int .i64 fp) := M13.out.2.2.2.2.2.1.cell 0
    have e1 : w13.cell? ⟨yb, 1, none⟩ = some (.int .i64 fa) := M13.out.2.2.2.2.2.1.cell 1
    have e2 : w13.cell? ⟨yb, 2, none⟩ = some (.int .i64 fw) := M13.out.2.2.2.2.2.1.cell 2
    have e3 : w13.cell? ⟨yb, 3, none⟩ = some (.int .i64 lg) := M13.out.2.2.2.2.2.1.cell 3
    have e4 : w13.cell? ⟨yb, 4, none⟩ = some (.slice (some ⟨bq, 0, none⟩) nb nb) := M13.out.2.2.2.2.2.1.cell 4
    have f0 : w13.cell? ⟨gb, 0, none⟩ = some (.int .i64 r0) := M13.out.2.2.2.2.2.2.cell 0
    have f1 : w13.cell? ⟨gb, 1, none⟩ = some (.int .i64 r1) := M13.out.2.2.2.2.2.2.cell 1
    have f2 : w13.cell? ⟨gb, 2, none⟩ = some (.int .i64 r2') := M13.out.2.2.2.2.2.2.cell 2
    go_wp2_with fail
    refine wp_region_held_drew (S := (fun wx : World => wx.cell? ⟨w.heap.size, 0, none⟩ = some (.slice pa v.n pc) ∧ wx.cell? ⟨w.heap.size, 1, none⟩ = some (.slice ja v.m jc) ∧ wx.cell? ⟨w.heap.size + 1, 0, none⟩ = some (.int .i64 fp) ∧ wx.cell? ⟨w.heap.size + 1, 1, none⟩ = some (.int .i64 fa) ∧ wx.cell? ⟨w.heap.size + 1, 2, none⟩ = some (.int .i64 fw) ∧ wx.cell? ⟨w.heap.size + 1, 3, none⟩ = some (.int .i64 lg) ∧ wx.cell? ⟨w.heap.size + 1, 4, none⟩ = some (.slice ba nb bk) ∧ wx.cell? ⟨tb, 0, none⟩ = some (.int .i64 r0) ∧ wx.cell? ⟨tb, 1, none⟩ = some (.int .i64 r1) ∧ wx.cell? ⟨tb, 2, none⟩ = some (.int .i64 r2') ∧ wx.cell? ⟨xb, 0, none⟩ = some (.slice pa2 v.n v.n) ∧ wx.cell? ⟨xb, 1, none⟩ = some (.slice ja2 v.m v.m) ∧ wx.cell? ⟨yb, 0, none⟩ = some (.int .i64 fp) ∧ wx.cell? ⟨yb, 1, none⟩ = some (.int .i64 fa) ∧ wx.cell? ⟨yb, 2, none⟩ = some (.int .i64 fw) ∧ wx.cell? ⟨yb, 3, none⟩ = some (.int .i64 lg) ∧ wx.cell? ⟨yb, 4, none⟩ = some (.slice (some ⟨bq, 0, none⟩) nb nb) ∧ wx.cell? ⟨gb, 0, none⟩ = some (.int .i64 r0) ∧ wx.cell? ⟨gb, 1, none⟩ = some (.int .i64 r1) ∧ wx.cell? ⟨gb, 2, none⟩ = some (.int .i64 r2'))) (by kernel_rfl) ?_ (fun hHeld => ?_)
    · exact ⟨a0, a1, b0, b1, b2, b3, b4, c0, c1, c2, d0, d1, e0, e1, e2, e3, e4, f0, f1, f2⟩
    refine tk 0 ?_
    refine tk 1 ?_
    refine rl 2 fun K hK => ?_
    go_simp
    refine (toNetR pa pc ja jc _ hn1 hm1 (H.out.1.mono (Nat.le_refl _) MD.out.1 (Nat.le_refl _)) (H.out.2.1.mono (Nat.le_refl _) MD.out.1 (Nat.le_refl _)) HNE.out).mono ?_
    rintro e wa ⟨pa3, ja3, rfl, hPa, hJa, hba⟩
    have Ma : Hid (Below w.heap.size w wa ∧ Box wa (w.heap.size) 25 #[.slice pa v.n pc, .slice ja v.m jc] ∧ Box wa (w.heap.size + 1) 42 #[.int .i64 fp, .int .i64 fa, .int .i64 fw, .int .i64 lg, .slice ba nb bk] ∧ Box wa (tb) 45 #[.int .i64 r0, .int .i64 r1, .int .i64 r2'] ∧ Box wa (xb) 32 #[.slice pa2 v.n v.n, .slice ja2 v.m v.m] ∧ Box wa (yb) 48 #[.int .i64 fp, .int .i64 fa, .int .i64 fw, .int .i64 lg, .slice (some ⟨bq, 0, none⟩) nb nb] ∧ Box wa (gb) 45 #[.int .i64 r0, .int .i64 r1, .int .i64 r2']) := ⟨MD.out.1.trans (hba.mono MD.out.1.size), MD.out.2.1.mono hba (Nat.le_refl _), MD.out.2.2.1.mono hba (Nat.le_refl _), MD.out.2.2.2.1.mono hba (Nat.le_refl _), MD.out.2.2.2.2.1.mono hba (Nat.le_refl _), MD.out.2.2.2.2.2.1.mono hba (Nat.le_refl _), MD.out.2.2.2.2.2.2.mono hba (Nat.le_refl _)⟩
    have Qa : Hid ((PsAt 0 wa pa3 v.n v.P ∧ JsAt 0 wa ja3 v.m v.J) ∧ PsAt 0 wa pa2 v.n v.P ∧ JsAt 0 wa ja2 v.m v.J ∧ NsAt 2 0 wa (some ⟨bq, 0, none⟩) nb B) := ⟨⟨hPa, hJa⟩, (QD.out.1.mono (Nat.le_refl _) hba (Nat.le_refl _)), (QD.out.2.1.mono (Nat.le_refl _) hba (Nat.le_refl _)), (QD.out.2.2.mono (Nat.le_refl _) hba (Nat.le_refl _))⟩
    clear hba hPa hJa
    go_wp2_with fail
    refine hK.out _ _ ?_ (fun hHeld2 => ?_)
    · exact ⟨Ma.out.2.1.cell 0, Ma.out.2.1.cell 1, Ma.out.2.2.1.cell 0, Ma.out.2.2.1.cell 1, Ma.out.2.2.1.cell 2, Ma.out.2.2.1.cell 3, Ma.out.2.2.1.cell 4, Ma.out.2.2.2.1.cell 0, Ma.out.2.2.2.1.cell 1, Ma.out.2.2.2.1.cell 2, Ma.out.2.2.2.2.1.cell 0, Ma.out.2.2.2.2.1.cell 1, Ma.out.2.2.2.2.2.1.cell 0, Ma.out.2.2.2.2.2.1.cell 1, Ma.out.2.2.2.2.2.1.cell 2, Ma.out.2.2.2.2.2.1.cell 3, Ma.out.2.2.2.2.2.1.cell 4, Ma.out.2.2.2.2.2.2.cell 0, Ma.out.2.2.2.2.2.2.cell 1, Ma.out.2.2.2.2.2.2.cell 2⟩
    clear hK K
    refine rl 3 fun K hK => ?_
    go_simp
    refine (eqNet10 pa2 pa3 v.n v.n v.n v.P ja2 ja3 v.m v.m v.m v.J wa hn1 hm1 Qa.out.2.1 Qa.out.1.1 Qa.out.2.2.1 Qa.out.1.2 HNE.out).mono ?_
    rintro e wb ⟨rfl, hbb⟩
    have Mb : Hid (Below w.heap.size w wb ∧ Box wb (w.heap.size) 25 #[.slice pa v.n pc, .slice ja v.m jc] ∧ Box wb (w.heap.size + 1) 42 #[.int .i64 fp, .int .i64 fa, .int .i64 fw, .int .i64 lg, .slice ba nb bk] ∧ Box wb (tb) 45 #[.int .i64 r0, .int .i64 r1, .int .i64 r2'] ∧ Box wb (xb) 32 #[.slice pa2 v.n v.n, .slice ja2 v.m v.m] ∧ Box wb (yb) 48 #[.int .i64 fp, .int .i64 fa, .int .i64 fw, .int .i64 lg, .slice (some ⟨bq, 0, none⟩) nb nb] ∧ Box wb (gb) 45 #[.int .i64 r0, .int .i64 r1, .int .i64 r2']) := ⟨Ma.out.1.trans (hbb.mono Ma.out.1.size), Ma.out.2.1.mono hbb (Nat.le_refl _), Ma.out.2.2.1.mono hbb (Nat.le_refl _), Ma.out.2.2.2.1.mono hbb (Nat.le_refl _), Ma.out.2.2.2.2.1.mono hbb (Nat.le_refl _), Ma.out.2.2.2.2.2.1.mono hbb (Nat.le_refl _), Ma.out.2.2.2.2.2.2.mono hbb (Nat.le_refl _)⟩
    have Qb : Hid (NsAt 2 0 wb (some ⟨bq, 0, none⟩) nb B) := (Qa.out.2.2.2.mono (Nat.le_refl _) hbb (Nat.le_refl _))
    clear hbb
    go_wp2_with fail
    refine hK.out _ _ ?_ (fun hHeld3 => ?_)
    · exact ⟨Mb.out.2.1.cell 0, Mb.out.2.1.cell 1, Mb.out.2.2.1.cell 0, Mb.out.2.2.1.cell 1, Mb.out.2.2.1.cell 2, Mb.out.2.2.1.cell 3, Mb.out.2.2.1.cell 4, Mb.out.2.2.2.1.cell 0, Mb.out.2.2.2.1.cell 1, Mb.out.2.2.2.1.cell 2, Mb.out.2.2.2.2.1.cell 0, Mb.out.2.2.2.2.1.cell 1, Mb.out.2.2.2.2.2.1.cell 0, Mb.out.2.2.2.2.2.1.cell 1, Mb.out.2.2.2.2.2.1.cell 2, Mb.out.2.2.2.2.2.1.cell 3, Mb.out.2.2.2.2.2.1.cell 4, Mb.out.2.2.2.2.2.2.cell 0, Mb.out.2.2.2.2.2.2.cell 1, Mb.out.2.2.2.2.2.2.cell 2⟩
    clear hK K
    refine tk 4 ?_
    refine wpAnyH_done (by kernel_rfl) ?_ _
    clear a0 a1 b0 b1 b2 b3 b4 c0 c1 c2 d0 d1 e0 e1 e2 e3 e4 f0 f1 f2 MD QD Ma Qa M13
    have ME : Hid (Below w.heap.size w wb.drew ∧ Box wb.drew (w.heap.size) 25 #[.slice pa v.n pc, .slice ja v.m jc] ∧ Box wb.drew (w.heap.size + 1) 42 #[.int .i64 fp, .int .i64 fa, .int .i64 fw, .int .i64 lg, .slice ba nb bk] ∧ Box wb.drew (tb) 45 #[.int .i64 r0, .int .i64 r1, .int .i64 r2'] ∧ Box wb.drew (xb) 32 #[.slice pa2 v.n v.n, .slice ja2 v.m v.m] ∧ Box wb.drew (yb) 48 #[.int .i64 fp, .int .i64 fa, .int .i64 fw, .int .i64 lg, .slice (some ⟨bq, 0, none⟩) nb nb] ∧ Box wb.drew (gb) 45 #[.int .i64 r0, .int .i64 r1, .int .i64 r2']) := ⟨Mb.out.1.drew, Mb.out.2.1.drew, Mb.out.2.2.1.drew, Mb.out.2.2.2.1.drew, Mb.out.2.2.2.2.1.drew, Mb.out.2.2.2.2.2.1.drew, Mb.out.2.2.2.2.2.2.drew⟩
    have QE : Hid (NsAt 2 0 wb.drew (some ⟨bq, 0, none⟩) nb B) := Qb.out.mono (Nat.le_refl _) (Below.refl wb.heap.size wb).drew (Nat.le_refl _)
    have a0 : wb.cell? ⟨w.heap.size, 0, none⟩ = some (.slice pa v.n pc) := Mb.out.2.1.cell 0
    have a1 : wb.cell? ⟨w.heap.size, 1, none⟩ = some (.slice ja v.m jc) := Mb.out.2.1.cell 1
    have b0 : wb.cell? ⟨w.heap.size + 1, 0, none⟩ = some (.int .i64 fp) := Mb.out.2.2.1.cell 0
    have b1 : wb.cell? ⟨w.heap.size + 1, 1, none⟩ = some (.int .i64 fa) := Mb.out.2.2.1.cell 1
    have b2 : wb.cell? ⟨w.heap.size + 1, 2, none⟩ = some (.int .i64 fw) := Mb.out.2.2.1.cell 2
    have b3 : wb.cell? ⟨w.heap.size + 1, 3, none⟩ = some (.int .i64 lg) := Mb.out.2.2.1.cell 3
    have b4 : wb.cell? ⟨w.heap.size + 1, 4, none⟩ = some (.slice ba nb bk) := Mb.out.2.2.1.cell 4
    have c0 : wb.cell? ⟨tb, 0, none⟩ = some (.int .i64 r0) := Mb.out.2.2.2.1.cell 0
    have c1 : wb.cell? ⟨tb, 1, none⟩ = some (.int .i64 r1) := Mb.out.2.2.2.1.cell 1
    have c2 : wb.cell? ⟨tb, 2, none⟩ = some (.int .i64 r2') := Mb.out.2.2.2.1.cell 2
    have d0 : wb.cell? ⟨xb, 0, none⟩ = some (.slice pa2 v.n v.n) := Mb.out.2.2.2.2.1.cell 0
    have d1 : wb.cell? ⟨xb, 1, none⟩ = some (.slice ja2 v.m v.m) := Mb.out.2.2.2.2.1.cell 1
    have e0 : wb.cell? ⟨yb, 0, none⟩ = some (.int .i64 fp) := Mb.out.2.2.2.2.2.1.cell 0
    have e1 : wb.cell? ⟨yb, 1, none⟩ = some (.int .i64 fa) := Mb.out.2.2.2.2.2.1.cell 1
    have e2 : wb.cell? ⟨yb, 2, none⟩ = some (.int .i64 fw) := Mb.out.2.2.2.2.2.1.cell 2
    have e3 : wb.cell? ⟨yb, 3, none⟩ = some (.int .i64 lg) := Mb.out.2.2.2.2.2.1.cell 3
    have e4 : wb.cell? ⟨yb, 4, none⟩ = some (.slice (some ⟨bq, 0, none⟩) nb nb) := Mb.out.2.2.2.2.2.1.cell 4
    have f0 : wb.cell? ⟨gb, 0, none⟩ = some (.int .i64 r0) := Mb.out.2.2.2.2.2.2.cell 0
    have f1 : wb.cell? ⟨gb, 1, none⟩ = some (.int .i64 r1) := Mb.out.2.2.2.2.2.2.cell 1
    have f2 : wb.cell? ⟨gb, 2, none⟩ = some (.int .i64 r2') := Mb.out.2.2.2.2.2.2.cell 2
    go_wp2_with fail
    refine wp_region_held_drew (S := (fun wx : World => wx.cell? ⟨w.heap.size, 0, none⟩ = some (.slice pa v.n pc) ∧ wx.cell? ⟨w.heap.size, 1, none⟩ = some (.slice ja v.m jc) ∧ wx.cell? ⟨w.heap.size + 1, 0, none⟩ = some (.int .i64 fp) ∧ wx.cell? ⟨w.heap.size + 1, 1, none⟩ = some (.int .i64 fa) ∧ wx.cell? ⟨w.heap.size + 1, 2, none⟩ = some (.int .i64 fw) ∧ wx.cell? ⟨w.heap.size + 1, 3, none⟩ = some (.int .i64 lg) ∧ wx.cell? ⟨w.heap.size + 1, 4, none⟩ = some (.slice ba nb bk) ∧ wx.cell? ⟨tb, 0, none⟩ = some (.int .i64 r0) ∧ wx.cell? ⟨tb, 1, none⟩ = some (.int .i64 r1) ∧ wx.cell? ⟨tb, 2, none⟩ = some (.int .i64 r2') ∧ wx.cell? ⟨xb, 0, none⟩ = some (.slice pa2 v.n v.n) ∧ wx.cell? ⟨xb, 1, none⟩ = some (.slice ja2 v.m v.m) ∧ wx.cell? ⟨yb, 0, none⟩ = some (.int .i64 fp) ∧ wx.cell? ⟨yb, 1, none⟩ = some (.int .i64 fa) ∧ wx.cell? ⟨yb, 2, none⟩ = some (.int .i64 fw) ∧ wx.cell? ⟨yb, 3, none⟩ = some (.int .i64 lg) ∧ wx.cell? ⟨yb, 4, none⟩ = some (.slice (some ⟨bq, 0, none⟩) nb nb) ∧ wx.cell? ⟨gb, 0, none⟩ = some (.int .i64 r0) ∧ wx.cell? ⟨gb, 1, none⟩ = some (.int .i64 r1) ∧ wx.cell? ⟨gb, 2, none⟩ = some (.int .i64 r2'))) (by kernel_rfl) ?_ (fun hHeld => ?_)
    · exact ⟨a0, a1, b0, b1, b2, b3, b4, c0, c1, c2, d0, d1, e0, e1, e2, e3, e4, f0, f1, f2⟩
    refine tk 0 ?_
    refine tk 1 ?_
    refine rl 2 fun K hK => ?_
    go_simp
    refine (toTrain16 fp fa fw lg nb B ba bk _ hnb1 (H.out.2.2.1.mono (Nat.le_refl _) ME.out.1 (Nat.le_refl _))).mono ?_
    rintro e wc1 ⟨bz, rfl, hBc, hbc⟩
    have Mc : Hid (Below w.heap.size w wc1 ∧ Box wc1 (w.heap.size) 25 #[.slice pa v.n pc, .slice ja v.m jc] ∧ Box wc1 (w.heap.size + 1) 42 #[.int .i64 fp, .int .i64 fa, .int .i64 fw, .int .i64 lg, .slice ba nb bk] ∧ Box wc1 (tb) 45 #[.int .i64 r0, .int .i64 r1, .int .i64 r2'] ∧ Box wc1 (xb) 32 #[.slice pa2 v.n v.n, .slice ja2 v.m v.m] ∧ Box wc1 (yb) 48 #[.int .i64 fp, .int .i64 fa, .int .i64 fw, .int .i64 lg, .slice (some ⟨bq, 0, none⟩) nb nb] ∧ Box wc1 (gb) 45 #[.int .i64 r0, .int .i64 r1, .int .i64 r2']) := ⟨ME.out.1.trans (hbc.mono ME.out.1.size), ME.out.2.1.mono hbc (Nat.le_refl _), ME.out.2.2.1.mono hbc (Nat.le_refl _), ME.out.2.2.2.1.mono hbc (Nat.le_refl _), ME.out.2.2.2.2.1.mono hbc (Nat.le_refl _), ME.out.2.2.2.2.2.1.mono hbc (Nat.le_refl _), ME.out.2.2.2.2.2.2.mono hbc (Nat.le_refl _)⟩
    have Qc : Hid (NsAt 2 0 wc1 (some ⟨bq, 0, none⟩) nb B ∧ NsAt 2 0 wc1 (some ⟨bz, 0, none⟩) nb B) := ⟨(QE.out.mono (Nat.le_refl _) hbc (Nat.le_refl _)), (hBc.keep (Nat.zero_le _) (Nat.le_refl _) fun _ _ _ => rfl)⟩
    clear hbc hBc
    go_wp2_with fail
    refine hK.out _ _ ?_ (fun hHeld2 => ?_)
    · exact ⟨Mc.out.2.1.cell 0, Mc.out.2.1.cell 1, Mc.out.2.2.1.cell 0, Mc.out.2.2.1.cell 1, Mc.out.2.2.1.cell 2, Mc.out.2.2.1.cell 3, Mc.out.2.2.1.cell 4, Mc.out.2.2.2.1.cell 0, Mc.out.2.2.2.1.cell 1, Mc.out.2.2.2.1.cell 2, Mc.out.2.2.2.2.1.cell 0, Mc.out.2.2.2.2.1.cell 1, Mc.out.2.2.2.2.2.1.cell 0, Mc.out.2.2.2.2.2.1.cell 1, Mc.out.2.2.2.2.2.1.cell 2, Mc.out.2.2.2.2.2.1.cell 3, Mc.out.2.2.2.2.2.1.cell 4, Mc.out.2.2.2.2.2.2.cell 0, Mc.out.2.2.2.2.2.2.cell 1, Mc.out.2.2.2.2.2.2.cell 2⟩
    clear hK K
    refine rl 3 fun K hK => ?_
    go_simp
    refine (eqTrain18 fp fa fw lg nb B (some ⟨bq, 0, none⟩) (some ⟨bz, 0, none⟩) nb nb wc1 hnb1 Qc.out.1 Qc.out.2).mono ?_
    rintro e wd ⟨rfl, hbd⟩
    have Md : Hid (Below w.heap.size w wd ∧ Box wd (w.heap.size) 25 #[.slice pa v.n pc, .slice ja v.m jc] ∧ Box wd (w.heap.size + 1) 42 #[.int .i64 fp, .int .i64 fa, .int .i64 fw, .int .i64 lg, .slice ba nb bk] ∧ Box wd (tb) 45 #[.int .i64 r0, .int .i64 r1, .int .i64 r2'] ∧ Box wd (xb) 32 #[.slice pa2 v.n v.n, .slice ja2 v.m v.m] ∧ Box wd (yb) 48 #[.int .i64 fp, .int .i64 fa, .int .i64 fw, .int .i64 lg, .slice (some ⟨bq, 0, none⟩) nb nb] ∧ Box wd (gb) 45 #[.int .i64 r0, .int .i64 r1, .int .i64 r2']) := ⟨Mc.out.1.trans (hbd.mono Mc.out.1.size), Mc.out.2.1.mono hbd (Nat.le_refl _), Mc.out.2.2.1.mono hbd (Nat.le_refl _), Mc.out.2.2.2.1.mono hbd (Nat.le_refl _), Mc.out.2.2.2.2.1.mono hbd (Nat.le_refl _), Mc.out.2.2.2.2.2.1.mono hbd (Nat.le_refl _), Mc.out.2.2.2.2.2.2.mono hbd (Nat.le_refl _)⟩
    clear hbd
    go_wp2_with fail
    refine hK.out _ _ ?_ (fun hHeld3 => ?_)
    · exact ⟨Md.out.2.1.cell 0, Md.out.2.1.cell 1, Md.out.2.2.1.cell 0, Md.out.2.2.1.cell 1, Md.out.2.2.1.cell 2, Md.out.2.2.1.cell 3, Md.out.2.2.1.cell 4, Md.out.2.2.2.1.cell 0, Md.out.2.2.2.1.cell 1, Md.out.2.2.2.1.cell 2, Md.out.2.2.2.2.1.cell 0, Md.out.2.2.2.2.1.cell 1, Md.out.2.2.2.2.2.1.cell 0, Md.out.2.2.2.2.2.1.cell 1, Md.out.2.2.2.2.2.1.cell 2, Md.out.2.2.2.2.2.1.cell 3, Md.out.2.2.2.2.2.1.cell 4, Md.out.2.2.2.2.2.2.cell 0, Md.out.2.2.2.2.2.2.cell 1, Md.out.2.2.2.2.2.2.cell 2⟩
    clear hK K
    refine tk 4 ?_
    refine wpAnyH_done (by kernel_rfl) ?_ _
    have HE : Hid (Below w.heap.size w wd) := Md.out.1
    go_wp2_with fail
    go_ret
    exact ⟨rfl, HE.out⟩

end Go.Proofs.Ytoennemahlakeaa
