import Derived.Test.YtoennemahlakeaaGreatYb
import Derived.Test.YtoennemahlakeaaGreatXb
import Derived.Test.YtoennemahlakeaaGreatTv
import Derived.Test.YtoennemahlakeaaGreatSz
import Derived.Test.YtoennemahlakeaaGreatEq
namespace Go.Proofs.YtoennemahlakeaaGreat
open Go.RowKit Go.Lib

theorem own_mark {B' n c : Nat} {w : World} {a : Option Addr} {F : Nat → Nat → Value} (h : VOwn B' 79 2 w (.slice a n c) n F) (hB : B' ≤ w.heap.size) : ∃ g, (0 < n → a = some ⟨g, 0, none⟩) ∧ (0 < n → g < w.heap.size) ∧ B' ≤ g ∧ (∀ o, 0 ≤ o → o < 0 + n * 2 → (∃ v, w.cell? ⟨g, o, none⟩ = some v) ∧ w.frozen? ⟨g, o, none⟩ = false) ∧ ∀ q T xs, T ≠ 79 → Box w q T xs → q ≠ g := by
  rcases h with ⟨h1, h0⟩ | ⟨g, cp, cur, h1, h2, h3, h4, h5, h6, h7⟩
  · subst h0
    exact ⟨w.heap.size, fun h => absurd h (Nat.lt_irrefl _), fun h => absurd h (Nat.lt_irrefl _), hB, fun o _ ho => absurd ho (by omega), fun q T xs _ hb => by have := hb.lt; omega⟩
  · simp only [Value.slice.injEq] at h1
    obtain ⟨rfl, -, rfl⟩ := h1
    refine ⟨g, fun _ => rfl, fun _ => h3.lt, h2, fun o _ ho => ?_, fun q T xs hT hb => box_ne hb h3 hT⟩
    have hlt : o < cur.size := by omega
    exact ⟨⟨cur[o], by rw [h3.cell]; exact Array.getElem?_eq_getElem hlt⟩, h3.free o⟩
theorem within_fr {g lo hi : Nat} {w w' : World} {o : Obj} (h : Within g lo hi (w.alloc o) w') : Fr (fun b => b = g) w w' :=
  ⟨h.os, h.tape, h.output, by rw [h.size]; simp, fun k hk hn => (h.other k hn).trans (Below.heap_alloc w o k hk)⟩
set_option maxRecDepth 100000 in
set_option maxHeartbeats 32000000 in
theorem law4z {v : Nv} (pa : Option Addr) (pc : Nat) (ja : Option Addr) (jc : Nat) (fp fa fw lg : Int) (nb : Nat) (B : Nat → Nat → Int) (ba : Option Addr) (bk : Nat) (w : World) (hn : v.n ≤ maxLen) (hm : v.m ≤ maxLen) (hl : nb ≤ maxLen) (hP : PsAt 0 w pa v.n v.P) (hJ : JsAt 0 w ja v.m v.J) (hps : ∀ i, i < v.n → (v.P i).nm.size ≤ maxLen) (hjs : ∀ i, i < v.m → (v.J i).nm.size ≤ maxLen ∧ (v.J i).ne ≤ maxLen) (hB : NsAt 2 0 w ba nb B) :
    Calls Tryz.prog 4 #[.agg #[.slice pa v.n pc, .slice ja v.m jc], .agg #[.int .i64 fp, .int .i64 fa, .int .i64 fw, .int .i64 lg, .slice ba nb bk]] w fun e w' => e = .returned (.bool true) ∧ Below w.heap.size w w' := by
  have H : Hid (PsAt 0 w pa v.n v.P ∧ JsAt 0 w ja v.m v.J ∧ NsAt 2 0 w ba nb B ∧ (∀ i, i < v.n → (v.P i).nm.size ≤ maxLen) ∧ (∀ i, i < v.m → (v.J i).nm.size ≤ maxLen ∧ (v.J i).ne ≤ maxLen)) := ⟨hP, hJ, hB, hps, hjs⟩
  have S0 : Hid (Below w.heap.size w ((w.alloc (.cells #[.slice pa v.n pc, .slice ja v.m jc] 25)).alloc (.cells #[.int .i64 fp, .int .i64 fa, .int .i64 fw, .int .i64 lg, .slice ba nb bk] 30)) ∧ Box ((w.alloc (.cells #[.slice pa v.n pc, .slice ja v.m jc] 25)).alloc (.cells #[.int .i64 fp, .int .i64 fa, .int .i64 fw, .int .i64 lg, .slice ba nb bk] 30)) (w.heap.size) 25 #[.slice pa v.n pc, .slice ja v.m jc] ∧ Box ((w.alloc (.cells #[.slice pa v.n pc, .slice ja v.m jc] 25)).alloc (.cells #[.int .i64 fp, .int .i64 fa, .int .i64 fw, .int .i64 lg, .slice ba nb bk] 30)) (w.heap.size + 1) 30 #[.int .i64 fp, .int .i64 fa, .int .i64 fw, .int .i64 lg, .slice ba nb bk]) := ⟨bel2 _ _ _, (Box.new _ _ _).alloc _, by have := Box.new (w.alloc (.cells #[.slice pa v.n pc, .slice ja v.m jc] 25)) 30 #[.int .i64 fp, .int .i64 fa, .int .i64 fw, .int .i64 lg, .slice ba nb bk]; simpa using this⟩
  clear hP hJ hB hps hjs
  go_enter Tryz.func4, Tryz.ntmps4
  go_upto_region 1 with fail
  generalize ((w.alloc (.cells #[.slice pa v.n pc, .slice ja v.m jc] 25)).alloc (.cells #[.int .i64 fp, .int .i64 fa, .int .i64 fw, .int .i64 lg, .slice ba nb bk] 30)) = V0 at S0 ⊢
  have a0 : V0.cell? ⟨w.heap.size, 0, none⟩ = some (.slice pa v.n pc) := S0.out.2.1.cell 0
  have a1 : V0.cell? ⟨w.heap.size, 1, none⟩ = some (.slice ja v.m jc) := S0.out.2.1.cell 1
  have b0 : V0.cell? ⟨w.heap.size + 1, 0, none⟩ = some (.int .i64 fp) := S0.out.2.2.cell 0
  have b1 : V0.cell? ⟨w.heap.size + 1, 1, none⟩ = some (.int .i64 fa) := S0.out.2.2.cell 1
  have b2 : V0.cell? ⟨w.heap.size + 1, 2, none⟩ = some (.int .i64 fw) := S0.out.2.2.cell 2
  have b3 : V0.cell? ⟨w.heap.size + 1, 3, none⟩ = some (.int .i64 lg) := S0.out.2.2.cell 3
  have b4 : V0.cell? ⟨w.heap.size + 1, 4, none⟩ = some (.slice ba nb bk) := S0.out.2.2.cell 4
  go_wp2_with fail
  clear a0 a1 b0 b1 b2 b3 b4
  refine (szNet5 pa v.n pc v.P ja v.m jc v.J 1048576 V0 hn hm (by omega) (by omega) (H.out.1.mono (Nat.le_refl _) S0.out.1 (Nat.le_refl _)) (H.out.2.1.mono (Nat.le_refl _) S0.out.1 (Nat.le_refl _)) H.out.2.2.2.1 H.out.2.2.2.2).mono ?_
  rintro e w1 ⟨r, rfl, hr1, hr2, hb1⟩
  have S1 : Hid (Below w.heap.size w w1 ∧ Box w1 (w.heap.size) 25 #[.slice pa v.n pc, .slice ja v.m jc] ∧ Box w1 (w.heap.size + 1) 30 #[.int .i64 fp, .int .i64 fa, .int .i64 fw, .int .i64 lg, .slice ba nb bk]) := ⟨S0.out.1.trans (hb1.mono S0.out.1.size), S0.out.2.1.mono hb1 (Nat.le_refl _), S0.out.2.2.mono hb1 (Nat.le_refl _)⟩
  clear hb1 S0
  by_cases hneg : r < 0
  · clear hr2
    go_wp2_with fail
    go_ret
    exact ⟨rfl, S1.out.1⟩
  obtain ⟨hn2, hm2, hne2⟩ := hr2 (by omega)
  have hn1 : v.n ≤ 1048576 := by omega
  have hm1 : v.m ≤ 1048576 := by omega
  have HNE : Hid (∀ i, i < v.m → (v.J i).ne ≤ 1048576) := fun i hi => by have := hne2 i hi; omega
  have HNE2 : Hid (∀ i, i < v.m → (v.J i).ne ≤ 1048576 ∧ (v.J i).nm.size ≤ maxLen) := fun i hi => ⟨HNE.out i hi, (H.out.2.2.2.2 i hi).1⟩
  clear hr2 hne2 hn2 hm2
  have a0 : w1.cell? ⟨w.heap.size, 0, none⟩ = some (.slice pa v.n pc) := S1.out.2.1.cell 0
  have a1 : w1.cell? ⟨w.heap.size, 1, none⟩ = some (.slice ja v.m jc) := S1.out.2.1.cell 1
  have b0 : w1.cell? ⟨w.heap.size + 1, 0, none⟩ = some (.int .i64 fp) := S1.out.2.2.cell 0
  have b1 : w1.cell? ⟨w.heap.size + 1, 1, none⟩ = some (.int .i64 fa) := S1.out.2.2.cell 1
  have b2 : w1.cell? ⟨w.heap.size + 1, 2, none⟩ = some (.int .i64 fw) := S1.out.2.2.cell 2
  have b3 : w1.cell? ⟨w.heap.size + 1, 3, none⟩ = some (.int .i64 lg) := S1.out.2.2.cell 3
  have b4 : w1.cell? ⟨w.heap.size + 1, 4, none⟩ = some (.slice ba nb bk) := S1.out.2.2.cell 4
  go_wp2_with fail
  clear a0 a1 b0 b1 b2 b3 b4
  refine (szTrain14 fp fa fw lg nb ba bk r w1 hl (by omega) (by omega)).mono ?_
  rintro e w2 ⟨r2, rfl, hs1, hs2, hb2⟩
  have S2 : Hid (Below w.heap.size w w2 ∧ Box w2 (w.heap.size) 25 #[.slice pa v.n pc, .slice ja v.m jc] ∧ Box w2 (w.heap.size + 1) 30 #[.int .i64 fp, .int .i64 fa, .int .i64 fw, .int .i64 lg, .slice ba nb bk]) := ⟨S1.out.1.trans (hb2.mono S1.out.1.size), S1.out.2.1.mono hb2 (Nat.le_refl _), S1.out.2.2.mono hb2 (Nat.le_refl _)⟩
  clear hb2 S1
  by_cases hneg2 : r2 < 0
  · clear hs2
    go_wp2_with fail
    go_ret
    exact ⟨rfl, S2.out.1⟩
  have hnb1 : nb ≤ 1048576 := by have := hs2 (by omega); omega
  clear hs2 hs1
  obtain ⟨d0, d1, d2, d3, N, HR⟩ : ∃ d0 d1 d2 d3 N, Hid (tdF v fp fa fw lg nb B 0 = d0 ∧ tdF v fp fa fw lg nb B 1 = d1 ∧ tdF v fp fa fw lg nb B 2 = d2 ∧ tdF v fp fa fw lg nb B 3 = d3 ∧ tdN v fp fa fw lg nb B = N) := ⟨_, _, _, _, _, rfl, rfl, rfl, rfl, rfl⟩
  have hN : N ≤ 1048576 := by
    have h1 := HR.out.2.2.2.2
    unfold tdN at h1
    split at h1 <;> omega
  go_upto_region 8 with fail
  go_cut [6] from 14 (fun s6 wx => ∃ (tb : Nat) (wa : Option Addr) (wk : Nat), s6 = .pointer (some ⟨tb, 0, none⟩) ∧ Hid (Below w2.heap.size w2 wx) ∧ Hid ((Box wx tb 43 #[.int .i64 d0, .int .i64 d1, .int .i64 d2, .int .i64 d3, .slice wa N wk] ∧ w2.heap.size ≤ tb) ∧ VOwn w2.heap.size 79 2 wx (.slice wa N wk) N (intF (bkF fp fw nb B))))
  case first =>
    have MD : Hid (Below w2.heap.size w2 w2.drew) := (Below.refl _ _).drew
    have a0 : w2.cell? ⟨w.heap.size, 0, none⟩ = some (.slice pa v.n pc) := S2.out.2.1.cell 0
    have a1 : w2.cell? ⟨w.heap.size, 1, none⟩ = some (.slice ja v.m jc) := S2.out.2.1.cell 1
    have b0 : w2.cell? ⟨w.heap.size + 1, 0, none⟩ = some (.int .i64 fp) := S2.out.2.2.cell 0
    have b1 : w2.cell? ⟨w.heap.size + 1, 1, none⟩ = some (.int .i64 fa) := S2.out.2.2.cell 1
    have b2 : w2.cell? ⟨w.heap.size + 1, 2, none⟩ = some (.int .i64 fw) := S2.out.2.2.cell 2
    have b3 : w2.cell? ⟨w.heap.size + 1, 3, none⟩ = some (.int .i64 lg) := S2.out.2.2.cell 3
    have b4 : w2.cell? ⟨w.heap.size + 1, 4, none⟩ = some (.slice ba nb bk) := S2.out.2.2.cell 4
    go_wp2_with fail
    refine wp_region_held_drew (S := (fun wx : World => wx.cell? ⟨w.heap.size, 0, none⟩ = some (.slice pa v.n pc) ∧ wx.cell? ⟨w.heap.size, 1, none⟩ = some (.slice ja v.m jc) ∧ wx.cell? ⟨w.heap.size + 1, 0, none⟩ = some (.int .i64 fp) ∧ wx.cell? ⟨w.heap.size + 1, 1, none⟩ = some (.int .i64 fa) ∧ wx.cell? ⟨w.heap.size + 1, 2, none⟩ = some (.int .i64 fw) ∧ wx.cell? ⟨w.heap.size + 1, 3, none⟩ = some (.int .i64 lg) ∧ wx.cell? ⟨w.heap.size + 1, 4, none⟩ = some (.slice ba nb bk))) (by kernel_rfl) ?_ (fun hHeld => ?_)
    · exact ⟨a0, a1, b0, b1, b2, b3, b4⟩
    clear a0 a1 b0 b1 b2 b3 b4
    generalize w2.drew = VD at MD hHeld ⊢
    refine tk 0 ?_
    refine tk 2 ?_
    refine ready2_lit (i := 1) (j := 5) (by kernel_rfl) rfl rfl (fun K hK => ?_) (fun K hK => ?_)
    · go_simp
      refine (toNetR pa pc ja jc _ hn1 hm1 (H.out.1.mono (Nat.le_refl _) (S2.out.1.trans (MD.out.mono S2.out.1.size)) (Nat.le_refl _)) (H.out.2.1.mono (Nat.le_refl _) (S2.out.1.trans (MD.out.mono S2.out.1.size)) (Nat.le_refl _)) HNE.out).mono ?_
      rintro e wh1 ⟨pa1, ja1, rfl, hP3, hJ3, hb⟩
      have MA3 : Hid (Below w2.heap.size w2 wh1) := MD.out.trans (hb.mono MD.out.size)
      have QA2 : Hid (PsAt 0 wh1 pa1 v.n v.P ∧ JsAt 0 wh1 ja1 v.m v.J) := ⟨hP3, hJ3⟩
      clear hb hP3 hJ3 MD
      go_wp2_with fail
      refine hK.out _ _ ?_ (fun hHeld => ?_)
      · exact ⟨(S2.out.2.1.mono MA3.out (Nat.le_refl _)).cell 0, (S2.out.2.1.mono MA3.out (Nat.le_refl _)).cell 1, (S2.out.2.2.mono MA3.out (Nat.le_refl _)).cell 0, (S2.out.2.2.mono MA3.out (Nat.le_refl _)).cell 1, (S2.out.2.2.mono MA3.out (Nat.le_refl _)).cell 2, (S2.out.2.2.mono MA3.out (Nat.le_refl _)).cell 3, (S2.out.2.2.mono MA3.out (Nat.le_refl _)).cell 4⟩
      clear hK K
      refine ready2_lit (i := 3) (j := 5) (by kernel_rfl) rfl rfl (fun K hK => ?_) (fun K hK => ?_)
      · go_simp
        refine (toTrain16 fp fa fw lg nb B ba bk _ hnb1 (H.out.2.2.1.mono (Nat.le_refl _) (S2.out.1.trans (MA3.out.mono S2.out.1.size)) (Nat.le_refl _))).mono ?_
        rintro e wh4 ⟨bn, rfl, hB4, hb⟩
        have MA6 : Hid (Below w2.heap.size w2 wh4) := MA3.out.trans (hb.mono MA3.out.size)
        have QA5 : Hid (PsAt 0 wh4 pa1 v.n v.P ∧ JsAt 0 wh4 ja1 v.m v.J ∧ NsAt 2 0 wh4 (some ⟨bn, 0, none⟩) nb B) := ⟨(QA2.out.1.mono (Nat.le_refl _) hb (Nat.le_refl _)), (QA2.out.2.mono (Nat.le_refl _) hb (Nat.le_refl _)), (hB4.keep (Nat.zero_le _) (Nat.le_refl _) fun _ _ _ => rfl)⟩
        clear hb hB4 MA3 QA2
        go_wp2_with fail
        refine hK.out _ _ ?_ (fun hHeld => ?_)
        · exact ⟨(S2.out.2.1.mono MA6.out (Nat.le_refl _)).cell 0, (S2.out.2.1.mono MA6.out (Nat.le_refl _)).cell 1, (S2.out.2.2.mono MA6.out (Nat.le_refl _)).cell 0, (S2.out.2.2.mono MA6.out (Nat.le_refl _)).cell 1, (S2.out.2.2.mono MA6.out (Nat.le_refl _)).cell 2, (S2.out.2.2.mono MA6.out (Nat.le_refl _)).cell 3, (S2.out.2.2.mono MA6.out (Nat.le_refl _)).cell 4⟩
        clear hK K
        refine ready2_lit (i := 4) (j := 5) (by kernel_rfl) rfl rfl (fun K hK => ?_) (fun K hK => ?_)
        · go_simp
          refine (specTurned18 pa1 v.n ja1 v.m fp fa fw lg nb B (some ⟨bn, 0, none⟩) nb _ hn1 hm1 hnb1 QA5.out.1 QA5.out.2.1 H.out.2.2.2.1 HNE2.out QA5.out.2.2).mono ?_
          rintro e wh7 ⟨wa, wk, he, ho, hb⟩
          rw [HR.out.1, HR.out.2.1, HR.out.2.2.1, HR.out.2.2.2.1, HR.out.2.2.2.2] at he
          rw [HR.out.2.2.2.2] at ho
          subst he
          have OA8 : Hid (VOwn w2.heap.size 79 2 wh7 (.slice wa N wk) N (intF (bkF fp fw nb B))) := ho.keep MA6.out.size (fun _ _ => rfl)
          have MA9 : Hid (Below w2.heap.size w2 wh7) := MA6.out.trans (hb.mono MA6.out.size)
          clear hb MA6 QA5 ho
          go_wp2_with fail
          refine hK.out _ _ ?_ (fun hHeld => ?_)
          · exact ⟨(S2.out.2.1.mono MA9.out (Nat.le_refl _)).cell 0, (S2.out.2.1.mono MA9.out (Nat.le_refl _)).cell 1, (S2.out.2.2.mono MA9.out (Nat.le_refl _)).cell 0, (S2.out.2.2.mono MA9.out (Nat.le_refl _)).cell 1, (S2.out.2.2.mono MA9.out (Nat.le_refl _)).cell 2, (S2.out.2.2.mono MA9.out (Nat.le_refl _)).cell 3, (S2.out.2.2.mono MA9.out (Nat.le_refl _)).cell 4⟩
          clear hK K
          refine rl 5 fun K hK => ?_
          have MA11 : Hid (Below w2.heap.size w2 (wh7.alloc (.cells #[.int .i64 0, .int .i64 0, .int .i64 0, .int .i64 0, .slice none 0 0] 43))) := MA9.out.alloc MA9.out.size _
          have TB12 : Hid (Box (wh7.alloc (.cells #[.int .i64 0, .int .i64 0, .int .i64 0, .int .i64 0, .slice none 0 0] 43)) wh7.heap.size 43 #[.int .i64 0, .int .i64 0, .int .i64 0, .int .i64 0, .slice none 0 0]) := Box.new _ _ _
          have HTL : Hid (w2.heap.size ≤ wh7.heap.size) := MA9.out.size
          have QA13 : Hid (VOwn w2.heap.size 79 2 (wh7.alloc (.cells #[.int .i64 0, .int .i64 0, .int .i64 0, .int .i64 0, .slice none 0 0] 43)) (.slice wa N wk) N (intF (bkF fp fw nb B))) := OA8.out.alloc _
          clear OA8
          clear MA9
          go_simp
          refine hK.out _ _ ?_ (fun hHeld => ?_)
          · exact ⟨(S2.out.2.1.mono MA11.out (Nat.le_refl _)).cell 0, (S2.out.2.1.mono MA11.out (Nat.le_refl _)).cell 1, (S2.out.2.2.mono MA11.out (Nat.le_refl _)).cell 0, (S2.out.2.2.mono MA11.out (Nat.le_refl _)).cell 1, (S2.out.2.2.mono MA11.out (Nat.le_refl _)).cell 2, (S2.out.2.2.mono MA11.out (Nat.le_refl _)).cell 3, (S2.out.2.2.mono MA11.out (Nat.le_refl _)).cell 4⟩
          clear hK K
          clear hHeld
          generalize wh7.alloc (.cells #[.int .i64 0, .int .i64 0, .int .i64 0, .int .i64 0, .slice none 0 0] 43) = wh10 at MA11 TB12 QA13 ⊢
          generalize wh7.heap.size = tb at TB12 HTL ⊢
          have z0 : wh10.cell? ⟨tb, 0, none⟩ = some (.int .i64 0) := TB12.out.cell 0
          have z1 : wh10.cell? ⟨tb, 1, none⟩ = some (.int .i64 0) := TB12.out.cell 1
          have z2 : wh10.cell? ⟨tb, 2, none⟩ = some (.int .i64 0) := TB12.out.cell 2
          have z3 : wh10.cell? ⟨tb, 3, none⟩ = some (.int .i64 0) := TB12.out.cell 3
          have z4 : wh10.cell? ⟨tb, 4, none⟩ = some (.slice none 0 0) := TB12.out.cell 4
          have q0 := TB12.out.free 0
          have q1 := TB12.out.free 1
          have q2 := TB12.out.free 2
          have q3 := TB12.out.free 3
          have q4 := TB12.out.free 4
          have MF : Hid (Below w2.heap.size w2 (((((wh10.setCell ⟨tb, 0, none⟩ (.int .i64 d0)).setCell ⟨tb, 1, none⟩ (.int .i64 d1)).setCell ⟨tb, 2, none⟩ (.int .i64 d2)).setCell ⟨tb, 3, none⟩ (.int .i64 d3)).setCell ⟨tb, 4, none⟩ (.slice wa N wk))) := (((((MA11.out.setCell HTL.out _).setCell HTL.out _).setCell HTL.out _).setCell HTL.out _).setCell HTL.out _)
          have MG : Hid ((Box (((((wh10.setCell ⟨tb, 0, none⟩ (.int .i64 d0)).setCell ⟨tb, 1, none⟩ (.int .i64 d1)).setCell ⟨tb, 2, none⟩ (.int .i64 d2)).setCell ⟨tb, 3, none⟩ (.int .i64 d3)).setCell ⟨tb, 4, none⟩ (.slice wa N wk)) tb 43 #[.int .i64 d0, .int .i64 d1, .int .i64 d2, .int .i64 d3, .slice wa N wk] ∧ w2.heap.size ≤ tb) ∧ VOwn w2.heap.size 79 2 (((((wh10.setCell ⟨tb, 0, none⟩ (.int .i64 d0)).setCell ⟨tb, 1, none⟩ (.int .i64 d1)).setCell ⟨tb, 2, none⟩ (.int .i64 d2)).setCell ⟨tb, 3, none⟩ (.int .i64 d3)).setCell ⟨tb, 4, none⟩ (.slice wa N wk)) (.slice wa N wk) N (intF (bkF fp fw nb B))) := ⟨⟨by
            have h9 := (((((TB12.out.set 0 (.int .i64 d0)).set 1 (.int .i64 d1)).set 2 (.int .i64 d2)).set 3 (.int .i64 d3)).set 4 (.slice wa N wk))
            exact h9, HTL.out⟩, (((((QA13.out.set TB12.out (by decide) 0 _).set (TB12.out.set 0 (.int .i64 d0)) (by decide) 1 _).set ((TB12.out.set 0 (.int .i64 d0)).set 1 (.int .i64 d1)) (by decide) 2 _).set (((TB12.out.set 0 (.int .i64 d0)).set 1 (.int .i64 d1)).set 2 (.int .i64 d2)) (by decide) 3 _).set ((((TB12.out.set 0 (.int .i64 d0)).set 1 (.int .i64 d1)).set 2 (.int .i64 d2)).set 3 (.int .i64 d3)) (by decide) 4 _)⟩
          refine rl 6 fun K hK => ?_
          go_simp
          refine hK.out _ _ ?_ (fun hHeld => ?_)
          · exact ⟨(S2.out.2.1.mono MF.out (Nat.le_refl _)).cell 0, (S2.out.2.1.mono MF.out (Nat.le_refl _)).cell 1, (S2.out.2.2.mono MF.out (Nat.le_refl _)).cell 0, (S2.out.2.2.mono MF.out (Nat.le_refl _)).cell 1, (S2.out.2.2.mono MF.out (Nat.le_refl _)).cell 2, (S2.out.2.2.mono MF.out (Nat.le_refl _)).cell 3, (S2.out.2.2.mono MF.out (Nat.le_refl _)).cell 4⟩
          clear hK K
          refine wpAnyH_done (by kernel_rfl) ?_ _
          clear z0 z1 z2 z3 z4 q0 q1 q2 q3 q4 hHeld
          go_wp2_with fail
          go_meet
          case rel => exact ⟨tb, wa, wk, rfl, MF, MG⟩
        · have MA15 : Hid (Below w2.heap.size w2 (wh4.alloc (.cells #[.int .i64 0, .int .i64 0, .int .i64 0, .int .i64 0, .slice none 0 0] 43))) := MA6.out.alloc MA6.out.size _
          have TB16 : Hid (Box (wh4.alloc (.cells #[.int .i64 0, .int .i64 0, .int .i64 0, .int .i64 0, .slice none 0 0] 43)) wh4.heap.size 43 #[.int .i64 0, .int .i64 0, .int .i64 0, .int .i64 0, .slice none 0 0]) := Box.new _ _ _
          have HTL : Hid (w2.heap.size ≤ wh4.heap.size) := MA6.out.size
          have QA17 : Hid (PsAt 0 (wh4.alloc (.cells #[.int .i64 0, .int .i64 0, .int .i64 0, .int .i64 0, .slice none 0 0] 43)) pa1 v.n v.P ∧ JsAt 0 (wh4.alloc (.cells #[.int .i64 0, .int .i64 0, .int .i64 0, .int .i64 0, .slice none 0 0] 43)) ja1 v.m v.J ∧ NsAt 2 0 (wh4.alloc (.cells #[.int .i64 0, .int .i64 0, .int .i64 0, .int .i64 0, .slice none 0 0] 43)) (some ⟨bn, 0, none⟩) nb B) := ⟨QA5.out.1.mono (Nat.le_refl _) (bel1 _ _) (Nat.le_refl _), QA5.out.2.1.mono (Nat.le_refl _) (bel1 _ _) (Nat.le_refl _), QA5.out.2.2.mono (Nat.le_refl _) (bel1 _ _) (Nat.le_refl _)⟩
          clear QA5
          clear MA6
          go_simp
          refine hK.out _ _ ?_ (fun hHeld => ?_)
          · exact ⟨(S2.out.2.1.mono MA15.out (Nat.le_refl _)).cell 0, (S2.out.2.1.mono MA15.out (Nat.le_refl _)).cell 1, (S2.out.2.2.mono MA15.out (Nat.le_refl _)).cell 0, (S2.out.2.2.mono MA15.out (Nat.le_refl _)).cell 1, (S2.out.2.2.mono MA15.out (Nat.le_refl _)).cell 2, (S2.out.2.2.mono MA15.out (Nat.le_refl _)).cell 3, (S2.out.2.2.mono MA15.out (Nat.le_refl _)).cell 4⟩
          clear hK K
          clear hHeld
          generalize wh4.alloc (.cells #[.int .i64 0, .int .i64 0, .int .i64 0, .int .i64 0, .slice none 0 0] 43) = wh14 at MA15 TB16 QA17 ⊢
          generalize wh4.heap.size = tb at TB16 HTL ⊢
          refine rl 4 fun K hK => ?_
          go_simp
          refine (specTurned18 pa1 v.n ja1 v.m fp fa fw lg nb B (some ⟨bn, 0, none⟩) nb _ hn1 hm1 hnb1 QA17.out.1 QA17.out.2.1 H.out.2.2.2.1 HNE2.out QA17.out.2.2).mono ?_
          rintro e wh18 ⟨wa, wk, he, ho, hb⟩
          rw [HR.out.1, HR.out.2.1, HR.out.2.2.1, HR.out.2.2.2.1, HR.out.2.2.2.2] at he
          rw [HR.out.2.2.2.2] at ho
          subst he
          have OA19 : Hid (VOwn w2.heap.size 79 2 wh18 (.slice wa N wk) N (intF (bkF fp fw nb B))) := ho.keep MA15.out.size (fun _ _ => rfl)
          have MA20 : Hid (Below w2.heap.size w2 wh18) := MA15.out.trans (hb.mono MA15.out.size)
          have TB21 : Hid (Box wh18 tb 43 #[.int .i64 0, .int .i64 0, .int .i64 0, .int .i64 0, .slice none 0 0]) := TB16.out.mono hb (Nat.le_refl _)
          clear TB16
          clear hb MA15 QA17 ho
          go_wp2_with fail
          refine hK.out _ _ ?_ (fun hHeld => ?_)
          · exact ⟨(S2.out.2.1.mono MA20.out (Nat.le_refl _)).cell 0, (S2.out.2.1.mono MA20.out (Nat.le_refl _)).cell 1, (S2.out.2.2.mono MA20.out (Nat.le_refl _)).cell 0, (S2.out.2.2.mono MA20.out (Nat.le_refl _)).cell 1, (S2.out.2.2.mono MA20.out (Nat.le_refl _)).cell 2, (S2.out.2.2.mono MA20.out (Nat.le_refl _)).cell 3, (S2.out.2.2.mono MA20.out (Nat.le_refl _)).cell 4⟩
          clear hK K
          have z0 : wh18.cell? ⟨tb, 0, none⟩ = some (.int .i64 0) := TB21.out.cell 0
          have z1 : wh18.cell? ⟨tb, 1, none⟩ = some (.int .i64 0) := TB21.out.cell 1
          have z2 : wh18.cell? ⟨tb, 2, none⟩ = some (.int .i64 0) := TB21.out.cell 2
          have z3 : wh18.cell? ⟨tb, 3, none⟩ = some (.int .i64 0) := TB21.out.cell 3
          have z4 : wh18.cell? ⟨tb, 4, none⟩ = some (.slice none 0 0) := TB21.out.cell 4
          have q0 := TB21.out.free 0
          have q1 := TB21.out.free 1
          have q2 := TB21.out.free 2
          have q3 := TB21.out.free 3
          have q4 := TB21.out.free 4
          have MF : Hid (Below w2.heap.size w2 (((((wh18.setCell ⟨tb, 0, none⟩ (.int .i64 d0)).setCell ⟨tb, 1, none⟩ (.int .i64 d1)).setCell ⟨tb, 2, none⟩ (.int .i64 d2)).setCell ⟨tb, 3, none⟩ (.int .i64 d3)).setCell ⟨tb, 4, none⟩ (.slice wa N wk))) := (((((MA20.out.setCell HTL.out _).setCell HTL.out _).setCell HTL.out _).setCell HTL.out _).setCell HTL.out _)
          have MG : Hid ((Box (((((wh18.setCell ⟨tb, 0, none⟩ (.int .i64 d0)).setCell ⟨tb, 1, none⟩ (.int .i64 d1)).setCell ⟨tb, 2, none⟩ (.int .i64 d2)).setCell ⟨tb, 3, none⟩ (.int .i64 d3)).setCell ⟨tb, 4, none⟩ (.slice wa N wk)) tb 43 #[.int .i64 d0, .int .i64 d1, .int .i64 d2, .int .i64 d3, .slice wa N wk] ∧ w2.heap.size ≤ tb) ∧ VOwn w2.heap.size 79 2 (((((wh18.setCell ⟨tb, 0, none⟩ (.int .i64 d0)).setCell ⟨tb, 1, none⟩ (.int .i64 d1)).setCell ⟨tb, 2, none⟩ (.int .i64 d2)).setCell ⟨tb, 3, none⟩ (.int .i64 d3)).setCell ⟨tb, 4, none⟩ (.slice wa N wk)) (.slice wa N wk) N (intF (bkF fp fw nb B))) := ⟨⟨by
            have h9 := (((((TB21.out.set 0 (.int .i64 d0)).set 1 (.int .i64 d1)).set 2 (.int .i64 d2)).set 3 (.int .i64 d3)).set 4 (.slice wa N wk))
            exact h9, HTL.out⟩, (((((OA19.out.set TB21.out (by decide) 0 _).set (TB21.out.set 0 (.int .i64 d0)) (by decide) 1 _).set ((TB21.out.set 0 (.int .i64 d0)).set 1 (.int .i64 d1)) (by decide) 2 _).set (((TB21.out.set 0 (.int .i64 d0)).set 1 (.int .i64 d1)).set 2 (.int .i64 d2)) (by decide) 3 _).set ((((TB21.out.set 0 (.int .i64 d0)).set 1 (.int .i64 d1)).set 2 (.int .i64 d2)).set 3 (.int .i64 d3)) (by decide) 4 _)⟩
          refine rl 6 fun K hK => ?_
          go_simp
          refine hK.out _ _ ?_ (fun hHeld => ?_)
          · exact ⟨(S2.out.2.1.mono MF.out (Nat.le_refl _)).cell 0, (S2.out.2.1.mono MF.out (Nat.le_refl _)).cell 1, (S2.out.2.2.mono MF.out (Nat.le_refl _)).cell 0, (S2.out.2.2.mono MF.out (Nat.le_refl _)).cell 1, (S2.out.2.2.mono MF.out (Nat.le_refl _)).cell 2, (S2.out.2.2.mono MF.out (Nat.le_refl _)).cell 3, (S2.out.2.2.mono MF.out (Nat.le_refl _)).cell 4⟩
          clear hK K
          refine wpAnyH_done (by kernel_rfl) ?_ _
          clear z0 z1 z2 z3 z4 q0 q1 q2 q3 q4 hHeld
          go_wp2_with fail
          go_meet
          case rel => exact ⟨tb, wa, wk, rfl, MF, MG⟩
      · have MA23 : Hid (Below w2.heap.size w2 (wh1.alloc (.cells #[.int .i64 0, .int .i64 0, .int .i64 0, .int .i64 0, .slice none 0 0] 43))) := MA3.out.alloc MA3.out.size _
        have TB24 : Hid (Box (wh1.alloc (.cells #[.int .i64 0, .int .i64 0, .int .i64 0, .int .i64 0, .slice none 0 0] 43)) wh1.heap.size 43 #[.int .i64 0, .int .i64 0, .int .i64 0, .int .i64 0, .slice none 0 0]) := Box.new _ _ _
        have HTL : Hid (w2.heap.size ≤ wh1.heap.size) := MA3.out.size
        have QA25 : Hid (PsAt 0 (wh1.alloc (.cells #[.int .i64 0, .int .i64 0, .int .i64 0, .int .i64 0, .slice none 0 0] 43)) pa1 v.n v.P ∧ JsAt 0 (wh1.alloc (.cells #[.int .i64 0, .int .i64 0, .int .i64 0, .int .i64 0, .slice none 0 0] 43)) ja1 v.m v.J) := ⟨QA2.out.1.mono (Nat.le_refl _) (bel1 _ _) (Nat.le_refl _), QA2.out.2.mono (Nat.le_refl _) (bel1 _ _) (Nat.le_refl _)⟩
        clear QA2
        clear MA3
        go_simp
        refine hK.out _ _ ?_ (fun hHeld => ?_)
        · exact ⟨(S2.out.2.1.mono MA23.out (Nat.le_refl _)).cell 0, (S2.out.2.1.mono MA23.out (Nat.le_refl _)).cell 1, (S2.out.2.2.mono MA23.out (Nat.le_refl _)).cell 0, (S2.out.2.2.mono MA23.out (Nat.le_refl _)).cell 1, (S2.out.2.2.mono MA23.out (Nat.le_refl _)).cell 2, (S2.out.2.2.mono MA23.out (Nat.le_refl _)).cell 3, (S2.out.2.2.mono MA23.out (Nat.le_refl _)).cell 4⟩
        clear hK K
        clear hHeld
        generalize wh1.alloc (.cells #[.int .i64 0, .int .i64 0, .int .i64 0, .int .i64 0, .slice none 0 0] 43) = wh22 at MA23 TB24 QA25 ⊢
        generalize wh1.heap.size = tb at TB24 HTL ⊢
        refine rl 3 fun K hK => ?_
        go_simp
        refine (toTrain16 fp fa fw lg nb B ba bk _ hnb1 (H.out.2.2.1.mono (Nat.le_refl _) (S2.out.1.trans (MA23.out.mono S2.out.1.size)) (Nat.le_refl _))).mono ?_
        rintro e wh26 ⟨bn, rfl, hB4, hb⟩
        have MA28 : Hid (Below w2.heap.size w2 wh26) := MA23.out.trans (hb.mono MA23.out.size)
        have TB29 : Hid (Box wh26 tb 43 #[.int .i64 0, .int .i64 0, .int .i64 0, .int .i64 0, .slice none 0 0]) := TB24.out.mono hb (Nat.le_refl _)
        clear TB24
        have QA27 : Hid (PsAt 0 wh26 pa1 v.n v.P ∧ JsAt 0 wh26 ja1 v.m v.J ∧ NsAt 2 0 wh26 (some ⟨bn, 0, none⟩) nb B) := ⟨(QA25.out.1.mono (Nat.le_refl _) hb (Nat.le_refl _)), (QA25.out.2.mono (Nat.le_refl _) hb (Nat.le_refl _)), (hB4.keep (Nat.zero_le _) (Nat.le_refl _) fun _ _ _ => rfl)⟩
        clear hb hB4 MA23 QA25
        go_wp2_with fail
        refine hK.out _ _ ?_ (fun hHeld => ?_)
        · exact ⟨(S2.out.2.1.mono MA28.out (Nat.le_refl _)).cell 0, (S2.out.2.1.mono MA28.out (Nat.le_refl _)).cell 1, (S2.out.2.2.mono MA28.out (Nat.le_refl _)).cell 0, (S2.out.2.2.mono MA28.out (Nat.le_refl _)).cell 1, (S2.out.2.2.mono MA28.out (Nat.le_refl _)).cell 2, (S2.out.2.2.mono MA28.out (Nat.le_refl _)).cell 3, (S2.out.2.2.mono MA28.out (Nat.le_refl _)).cell 4⟩
        clear hK K
        refine rl 4 fun K hK => ?_
        go_simp
        refine (specTurned18 pa1 v.n ja1 v.m fp fa fw lg nb B (some ⟨bn, 0, none⟩) nb _ hn1 hm1 hnb1 QA27.out.1 QA27.out.2.1 H.out.2.2.2.1 HNE2.out QA27.out.2.2).mono ?_
        rintro e wh30 ⟨wa, wk, he, ho, hb⟩
        rw [HR.out.1, HR.out.2.1, HR.out.2.2.1, HR.out.2.2.2.1, HR.out.2.2.2.2] at he
        rw [HR.out.2.2.2.2] at ho
        subst he
        have OA31 : Hid (VOwn w2.heap.size 79 2 wh30 (.slice wa N wk) N (intF (bkF fp fw nb B))) := ho.keep MA28.out.size (fun _ _ => rfl)
        have MA32 : Hid (Below w2.heap.size w2 wh30) := MA28.out.trans (hb.mono MA28.out.size)
        have TB33 : Hid (Box wh30 tb 43 #[.int .i64 0, .int .i64 0, .int .i64 0, .int .i64 0, .slice none 0 0]) := TB29.out.mono hb (Nat.le_refl _)
        clear TB29
        clear hb MA28 QA27 ho
        go_wp2_with fail
        refine hK.out _ _ ?_ (fun hHeld => ?_)
        · exact ⟨(S2.out.2.1.mono MA32.out (Nat.le_refl _)).cell 0, (S2.out.2.1.mono MA32.out (Nat.le_refl _)).cell 1, (S2.out.2.2.mono MA32.out (Nat.le_refl _)).cell 0, (S2.out.2.2.mono MA32.out (Nat.le_refl _)).cell 1, (S2.out.2.2.mono MA32.out (Nat.le_refl _)).cell 2, (S2.out.2.2.mono MA32.out (Nat.le_refl _)).cell 3, (S2.out.2.2.mono MA32.out (Nat.le_refl _)).cell 4⟩
        clear hK K
        have z0 : wh30.cell? ⟨tb, 0, none⟩ = some (.int .i64 0) := TB33.out.cell 0
        have z1 : wh30.cell? ⟨tb, 1, none⟩ = some (.int .i64 0) := TB33.out.cell 1
        have z2 : wh30.cell? ⟨tb, 2, none⟩ = some (.int .i64 0) := TB33.out.cell 2
        have z3 : wh30.cell? ⟨tb, 3, none⟩ = some (.int .i64 0) := TB33.out.cell 3
        have z4 : wh30.cell? ⟨tb, 4, none⟩ = some (.slice none 0 0) := TB33.out.cell 4
        have q0 := TB33.out.free 0
        have q1 := TB33.out.free 1
        have q2 := TB33.out.free 2
        have q3 := TB33.out.free 3
        have q4 := TB33.out.free 4
        have MF : Hid (Below w2.heap.size w2 (((((wh30.setCell ⟨tb, 0, none⟩ (.int .i64 d0)).setCell ⟨tb, 1, none⟩ (.int .i64 d1)).setCell ⟨tb, 2, none⟩ (.int .i64 d2)).setCell ⟨tb, 3, none⟩ (.int .i64 d3)).setCell ⟨tb, 4, none⟩ (.slice wa N wk))) := (((((MA32.out.setCell HTL.out _).setCell HTL.out _).setCell HTL.out _).setCell HTL.out _).setCell HTL.out _)
        have MG : Hid ((Box (((((wh30.setCell ⟨tb, 0, none⟩ (.int .i64 d0)).setCell ⟨tb, 1, none⟩ (.int .i64 d1)).setCell ⟨tb, 2, none⟩ (.int .i64 d2)).setCell ⟨tb, 3, none⟩ (.int .i64 d3)).setCell ⟨tb, 4, none⟩ (.slice wa N wk)) tb 43 #[.int .i64 d0, .int .i64 d1, .int .i64 d2, .int .i64 d3, .slice wa N wk] ∧ w2.heap.size ≤ tb) ∧ VOwn w2.heap.size 79 2 (((((wh30.setCell ⟨tb, 0, none⟩ (.int .i64 d0)).setCell ⟨tb, 1, none⟩ (.int .i64 d1)).setCell ⟨tb, 2, none⟩ (.int .i64 d2)).setCell ⟨tb, 3, none⟩ (.int .i64 d3)).setCell ⟨tb, 4, none⟩ (.slice wa N wk)) (.slice wa N wk) N (intF (bkF fp fw nb B))) := ⟨⟨by
          have h9 := (((((TB33.out.set 0 (.int .i64 d0)).set 1 (.int .i64 d1)).set 2 (.int .i64 d2)).set 3 (.int .i64 d3)).set 4 (.slice wa N wk))
          exact h9, HTL.out⟩, (((((OA31.out.set TB33.out (by decide) 0 _).set (TB33.out.set 0 (.int .i64 d0)) (by decide) 1 _).set ((TB33.out.set 0 (.int .i64 d0)).set 1 (.int .i64 d1)) (by decide) 2 _).set (((TB33.out.set 0 (.int .i64 d0)).set 1 (.int .i64 d1)).set 2 (.int .i64 d2)) (by decide) 3 _).set ((((TB33.out.set 0 (.int .i64 d0)).set 1 (.int .i64 d1)).set 2 (.int .i64 d2)).set 3 (.int .i64 d3)) (by decide) 4 _)⟩
        refine rl 6 fun K hK => ?_
        go_simp
        refine hK.out _ _ ?_ (fun hHeld => ?_)
        · exact ⟨(S2.out.2.1.mono MF.out (Nat.le_refl _)).cell 0, (S2.out.2.1.mono MF.out (Nat.le_refl _)).cell 1, (S2.out.2.2.mono MF.out (Nat.le_refl _)).cell 0, (S2.out.2.2.mono MF.out (Nat.le_refl _)).cell 1, (S2.out.2.2.mono MF.out (Nat.le_refl _)).cell 2, (S2.out.2.2.mono MF.out (Nat.le_refl _)).cell 3, (S2.out.2.2.mono MF.out (Nat.le_refl _)).cell 4⟩
        clear hK K
        refine wpAnyH_done (by kernel_rfl) ?_ _
        clear z0 z1 z2 z3 z4 q0 q1 q2 q3 q4 hHeld
        go_wp2_with fail
        go_meet
        case rel => exact ⟨tb, wa, wk, rfl, MF, MG⟩
    · have MA35 : Hid (Below w2.heap.size w2 (VD.alloc (.cells #[.int .i64 0, .int .i64 0, .int .i64 0, .int .i64 0, .slice none 0 0] 43))) := MD.out.alloc MD.out.size _
      have TB36 : Hid (Box (VD.alloc (.cells #[.int .i64 0, .int .i64 0, .int .i64 0, .int .i64 0, .slice none 0 0] 43)) VD.heap.size 43 #[.int .i64 0, .int .i64 0, .int .i64 0, .int .i64 0, .slice none 0 0]) := Box.new _ _ _
      have HTL : Hid (w2.heap.size ≤ VD.heap.size) := MD.out.size
      clear MD
      go_simp
      refine hK.out _ _ ?_ (fun hHeld => ?_)
      · exact ⟨(S2.out.2.1.mono MA35.out (Nat.le_refl _)).cell 0, (S2.out.2.1.mono MA35.out (Nat.le_refl _)).cell 1, (S2.out.2.2.mono MA35.out (Nat.le_refl _)).cell 0, (S2.out.2.2.mono MA35.out (Nat.le_refl _)).cell 1, (S2.out.2.2.mono MA35.out (Nat.le_refl _)).cell 2, (S2.out.2.2.mono MA35.out (Nat.le_refl _)).cell 3, (S2.out.2.2.mono MA35.out (Nat.le_refl _)).cell 4⟩
      clear hK K
      clear hHeld
      generalize VD.alloc (.cells #[.int .i64 0, .int .i64 0, .int .i64 0, .int .i64 0, .slice none 0 0] 43) = wh34 at MA35 TB36  ⊢
      generalize VD.heap.size = tb at TB36 HTL ⊢
      refine rl 1 fun K hK => ?_
      go_simp
      refine (toNetR pa pc ja jc _ hn1 hm1 (H.out.1.mono (Nat.le_refl _) (S2.out.1.trans (MA35.out.mono S2.out.1.size)) (Nat.le_refl _)) (H.out.2.1.mono (Nat.le_refl _) (S2.out.1.trans (MA35.out.mono S2.out.1.size)) (Nat.le_refl _)) HNE.out).mono ?_
      rintro e wh38 ⟨pa1, ja1, rfl, hP3, hJ3, hb⟩
      have MA40 : Hid (Below w2.heap.size w2 wh38) := MA35.out.trans (hb.mono MA35.out.size)
      have TB41 : Hid (Box wh38 tb 43 #[.int .i64 0, .int .i64 0, .int .i64 0, .int .i64 0, .slice none 0 0]) := TB36.out.mono hb (Nat.le_refl _)
      clear TB36
      have QA39 : Hid (PsAt 0 wh38 pa1 v.n v.P ∧ JsAt 0 wh38 ja1 v.m v.J) := ⟨hP3, hJ3⟩
      clear hb hP3 hJ3 MA35
      go_wp2_with fail
      refine hK.out _ _ ?_ (fun hHeld => ?_)
      · exact ⟨(S2.out.2.1.mono MA40.out (Nat.le_refl _)).cell 0, (S2.out.2.1.mono MA40.out (Nat.le_refl _)).cell 1, (S2.out.2.2.mono MA40.out (Nat.le_refl _)).cell 0, (S2.out.2.2.mono MA40.out (Nat.le_refl _)).cell 1, (S2.out.2.2.mono MA40.out (Nat.le_refl _)).cell 2, (S2.out.2.2.mono MA40.out (Nat.le_refl _)).cell 3, (S2.out.2.2.mono MA40.out (Nat.le_refl _)).cell 4⟩
      clear hK K
      refine rl 3 fun K hK => ?_
      go_simp
      refine (toTrain16 fp fa fw lg nb B ba bk _ hnb1 (H.out.2.2.1.mono (Nat.le_refl _) (S2.out.1.trans (MA40.out.mono S2.out.1.size)) (Nat.le_refl _))).mono ?_
      rintro e wh42 ⟨bn, rfl, hB4, hb⟩
      have MA44 : Hid (Below w2.heap.size w2 wh42) := MA40.out.trans (hb.mono MA40.out.size)
      have TB45 : Hid (Box wh42 tb 43 #[.int .i64 0, .int .i64 0, .int .i64 0, .int .i64 0, .slice none 0 0]) := TB41.out.mono hb (Nat.le_refl _)
      clear TB41
      have QA43 : Hid (PsAt 0 wh42 pa1 v.n v.P ∧ JsAt 0 wh42 ja1 v.m v.J ∧ NsAt 2 0 wh42 (some ⟨bn, 0, none⟩) nb B) := ⟨(QA39.out.1.mono (Nat.le_refl _) hb (Nat.le_refl _)), (QA39.out.2.mono (Nat.le_refl _) hb (Nat.le_refl _)), (hB4.keep (Nat.zero_le _) (Nat.le_refl _) fun _ _ _ => rfl)⟩
      clear hb hB4 MA40 QA39
      go_wp2_with fail
      refine hK.out _ _ ?_ (fun hHeld => ?_)
      · exact ⟨(S2.out.2.1.mono MA44.out (Nat.le_refl _)).cell 0, (S2.out.2.1.mono MA44.out (Nat.le_refl _)).cell 1, (S2.out.2.2.mono MA44.out (Nat.le_refl _)).cell 0, (S2.out.2.2.mono MA44.out (Nat.le_refl _)).cell 1, (S2.out.2.2.mono MA44.out (Nat.le_refl _)).cell 2, (S2.out.2.2.mono MA44.out (Nat.le_refl _)).cell 3, (S2.out.2.2.mono MA44.out (Nat.le_refl _)).cell 4⟩
      clear hK K
      refine rl 4 fun K hK => ?_
      go_simp
      refine (specTurned18 pa1 v.n ja1 v.m fp fa fw lg nb B (some ⟨bn, 0, none⟩) nb _ hn1 hm1 hnb1 QA43.out.1 QA43.out.2.1 H.out.2.2.2.1 HNE2.out QA43.out.2.2).mono ?_
      rintro e wh46 ⟨wa, wk, he, ho, hb⟩
      rw [HR.out.1, HR.out.2.1, HR.out.2.2.1, HR.out.2.2.2.1, HR.out.2.2.2.2] at he
      rw [HR.out.2.2.2.2] at ho
      subst he
      have OA47 : Hid (VOwn w2.heap.size 79 2 wh46 (.slice wa N wk) N (intF (bkF fp fw nb B))) := ho.keep MA44.out.size (fun _ _ => rfl)
      have MA48 : Hid (Below w2.heap.size w2 wh46) := MA44.out.trans (hb.mono MA44.out.size)
      have TB49 : Hid (Box wh46 tb 43 #[.int .i64 0, .int .i64 0, .int .i64 0, .int .i64 0, .slice none 0 0]) := TB45.out.mono hb (Nat.le_refl _)
      clear TB45
      clear hb MA44 QA43 ho
      go_wp2_with fail
      refine hK.out _ _ ?_ (fun hHeld => ?_)
      · exact ⟨(S2.out.2.1.mono MA48.out (Nat.le_refl _)).cell 0, (S2.out.2.1.mono MA48.out (Nat.le_refl _)).cell 1, (S2.out.2.2.mono MA48.out (Nat.le_refl _)).cell 0, (S2.out.2.2.mono MA48.out (Nat.le_refl _)).cell 1, (S2.out.2.2.mono MA48.out (Nat.le_refl _)).cell 2, (S2.out.2.2.mono MA48.out (Nat.le_refl _)).cell 3, (S2.out.2.2.mono MA48.out (Nat.le_refl _)).cell 4⟩
      clear hK K
      have z0 : wh46.cell? ⟨tb, 0, none⟩ = some (.int .i64 0) := TB49.out.cell 0
      have z1 : wh46.cell? ⟨tb, 1, none⟩ = some (.int .i64 0) := TB49.out.cell 1
      have z2 : wh46.cell? ⟨tb, 2, none⟩ = some (.int .i64 0) := TB49.out.cell 2
      have z3 : wh46.cell? ⟨tb, 3, none⟩ = some (.int .i64 0) := TB49.out.cell 3
      have z4 : wh46.cell? ⟨tb, 4, none⟩ = some (.slice none 0 0) := TB49.out.cell 4
      have q0 := TB49.out.free 0
      have q1 := TB49.out.free 1
      have q2 := TB49.out.free 2
      have q3 := TB49.out.free 3
      have q4 := TB49.out.free 4
      have MF : Hid (Below w2.heap.size w2 (((((wh46.setCell ⟨tb, 0, none⟩ (.int .i64 d0)).setCell ⟨tb, 1, none⟩ (.int .i64 d1)).setCell ⟨tb, 2, none⟩ (.int .i64 d2)).setCell ⟨tb, 3, none⟩ (.int .i64 d3)).setCell ⟨tb, 4, none⟩ (.slice wa N wk))) := (((((MA48.out.setCell HTL.out _).setCell HTL.out _).setCell HTL.out _).setCell HTL.out _).setCell HTL.out _)
      have MG : Hid ((Box (((((wh46.setCell ⟨tb, 0, none⟩ (.int .i64 d0)).setCell ⟨tb, 1, none⟩ (.int .i64 d1)).setCell ⟨tb, 2, none⟩ (.int .i64 d2)).setCell ⟨tb, 3, none⟩ (.int .i64 d3)).setCell ⟨tb, 4, none⟩ (.slice wa N wk)) tb 43 #[.int .i64 d0, .int .i64 d1, .int .i64 d2, .int .i64 d3, .slice wa N wk] ∧ w2.heap.size ≤ tb) ∧ VOwn w2.heap.size 79 2 (((((wh46.setCell ⟨tb, 0, none⟩ (.int .i64 d0)).setCell ⟨tb, 1, none⟩ (.int .i64 d1)).setCell ⟨tb, 2, none⟩ (.int .i64 d2)).setCell ⟨tb, 3, none⟩ (.int .i64 d3)).setCell ⟨tb, 4, none⟩ (.slice wa N wk)) (.slice wa N wk) N (intF (bkF fp fw nb B))) := ⟨⟨by
        have h9 := (((((TB49.out.set 0 (.int .i64 d0)).set 1 (.int .i64 d1)).set 2 (.int .i64 d2)).set 3 (.int .i64 d3)).set 4 (.slice wa N wk))
        exact h9, HTL.out⟩, (((((OA47.out.set TB49.out (by decide) 0 _).set (TB49.out.set 0 (.int .i64 d0)) (by decide) 1 _).set ((TB49.out.set 0 (.int .i64 d0)).set 1 (.int .i64 d1)) (by decide) 2 _).set (((TB49.out.set 0 (.int .i64 d0)).set 1 (.int .i64 d1)).set 2 (.int .i64 d2)) (by decide) 3 _).set ((((TB49.out.set 0 (.int .i64 d0)).set 1 (.int .i64 d1)).set 2 (.int .i64 d2)).set 3 (.int .i64 d3)) (by decide) 4 _)⟩
      refine rl 6 fun K hK => ?_
      go_simp
      refine hK.out _ _ ?_ (fun hHeld => ?_)
      · exact ⟨(S2.out.2.1.mono MF.out (Nat.le_refl _)).cell 0, (S2.out.2.1.mono MF.out (Nat.le_refl _)).cell 1, (S2.out.2.2.mono MF.out (Nat.le_refl _)).cell 0, (S2.out.2.2.mono MF.out (Nat.le_refl _)).cell 1, (S2.out.2.2.mono MF.out (Nat.le_refl _)).cell 2, (S2.out.2.2.mono MF.out (Nat.le_refl _)).cell 3, (S2.out.2.2.mono MF.out (Nat.le_refl _)).cell 4⟩
      clear hK K
      refine wpAnyH_done (by kernel_rfl) ?_ _
      clear z0 z1 z2 z3 z4 q0 q1 q2 q3 q4 hHeld
      go_wp2_with fail
      go_meet
      case rel => exact ⟨tb, wa, wk, rfl, MF, MG⟩
  case rest =>
    obtain ⟨tb, wa, wk, rfl, M6, M6b⟩ := hcut
    generalize wc = w6 at M6 M6b ⊢
    have M : Hid (Below w.heap.size w w6 ∧ Box w6 (w.heap.size) 25 #[.slice pa v.n pc, .slice ja v.m jc] ∧ Box w6 (w.heap.size + 1) 30 #[.int .i64 fp, .int .i64 fa, .int .i64 fw, .int .i64 lg, .slice ba nb bk] ∧ Box w6 (tb) 43 #[.int .i64 d0, .int .i64 d1, .int .i64 d2, .int .i64 d3, .slice wa N wk]) := ⟨S2.out.1.trans (M6.out.mono S2.out.1.size), S2.out.2.1.mono M6.out (Nat.le_refl _), S2.out.2.2.mono M6.out (Nat.le_refl _), M6b.out.1.1⟩
    have Q6 : Hid (VOwn w.heap.size 79 2 w6 (.slice wa N wk) N (intF (bkF fp fw nb B))) := M6b.out.2.keep S2.out.1.size (fun _ _ => rfl)
    clear M6 M6b S2
    have a0 : w6.cell? ⟨w.heap.size, 0, none⟩ = some (.slice pa v.n pc) := M.out.2.1.cell 0
    have a1 : w6.cell? ⟨w.heap.size, 1, none⟩ = some (.slice ja v.m jc) := M.out.2.1.cell 1
    have b0 : w6.cell? ⟨w.heap.size + 1, 0, none⟩ = some (.int .i64 fp) := M.out.2.2.1.cell 0
    have b1 : w6.cell? ⟨w.heap.size + 1, 1, none⟩ = some (.int .i64 fa) := M.out.2.2.1.cell 1
    have b2 : w6.cell? ⟨w.heap.size + 1, 2, none⟩ = some (.int .i64 fw) := M.out.2.2.1.cell 2
    have b3 : w6.cell? ⟨w.heap.size + 1, 3, none⟩ = some (.int .i64 lg) := M.out.2.2.1.cell 3
    have b4 : w6.cell? ⟨w.heap.size + 1, 4, none⟩ = some (.slice ba nb bk) := M.out.2.2.1.cell 4
    have c0 : w6.cell? ⟨tb, 0, none⟩ = some (.int .i64 d0) := M.out.2.2.2.cell 0
    have c1 : w6.cell? ⟨tb, 1, none⟩ = some (.int .i64 d1) := M.out.2.2.2.cell 1
    have c2 : w6.cell? ⟨tb, 2, none⟩ = some (.int .i64 d2) := M.out.2.2.2.cell 2
    have c3 : w6.cell? ⟨tb, 3, none⟩ = some (.int .i64 d3) := M.out.2.2.2.cell 3
    have c4 : w6.cell? ⟨tb, 4, none⟩ = some (.slice wa N wk) := M.out.2.2.2.cell 4
    go_wp2_with fail
    clear a0 a1 b0 b1 b2 b3 b4 c0 c1 c2 c3 c4
    refine (toNet7x pa v.n pc v.P ja v.m jc v.J w6 hn1 hm1 (H.out.1.mono (Nat.le_refl _) M.out.1 (Nat.le_refl _)) (H.out.2.1.mono (Nat.le_refl _) M.out.1 (Nat.le_refl _)) HNE.out).mono ?_
    rintro e w7 ⟨pb, jb, hpb, hjb, hpj, rfl, hP7, hJ7, hb7⟩
    have HP7 : Hid (PsTo w7 pb v.n v.n v.P ∧ JsTo w7 jb v.m v.m v.J ∧ pb < jb ∧ jb < w7.heap.size) := ⟨hP7, hJ7, hpj, by obtain ⟨f, hr, _⟩ := hJ7; exact hr.lt⟩
    have HL0 : Hid (∀ g, (Value.slice wa N wk).ownBlock = some g → g < pb) := fun g hg => by have := (Q6.out.lt hg).2; omega
    have HLB : Hid (w.heap.size + 1 < pb ∧ tb < pb) := ⟨by have := M.out.2.2.1.lt; omega, by have := M.out.2.2.2.lt; omega⟩
    have M7 : Hid (Below w.heap.size w w7 ∧ Box w7 (w.heap.size) 25 #[.slice pa v.n pc, .slice ja v.m jc] ∧ Box w7 (w.heap.size + 1) 30 #[.int .i64 fp, .int .i64 fa, .int .i64 fw, .int .i64 lg, .slice ba nb bk] ∧ Box w7 (tb) 43 #[.int .i64 d0, .int .i64 d1, .int .i64 d2, .int .i64 d3, .slice wa N wk]) := ⟨M.out.1.trans (hb7.mono M.out.1.size), M.out.2.1.mono hb7 (Nat.le_refl _), M.out.2.2.1.mono hb7 (Nat.le_refl _), M.out.2.2.2.mono hb7 (Nat.le_refl _)⟩
    have Q7 : Hid (VOwn w.heap.size 79 2 w7 (.slice wa N wk) N (intF (bkF fp fw nb B))) := Q6.out.mono (Nat.le_refl _) hb7 (Nat.le_refl _)
    clear hb7 hP7 hJ7 hpb hjb hpj M Q6
    have M8 : Hid (Below w.heap.size w (w7.alloc (.cells #[.slice (some ⟨pb, 0, none⟩) v.n v.n, .slice (some ⟨jb, 0, none⟩) v.m v.m] 38)) ∧ Box (w7.alloc (.cells #[.slice (some ⟨pb, 0, none⟩) v.n v.n, .slice (some ⟨jb, 0, none⟩) v.m v.m] 38)) (w.heap.size) 25 #[.slice pa v.n pc, .slice ja v.m jc] ∧ Box (w7.alloc (.cells #[.slice (some ⟨pb, 0, none⟩) v.n v.n, .slice (some ⟨jb, 0, none⟩) v.m v.m] 38)) (w.heap.size + 1) 30 #[.int .i64 fp, .int .i64 fa, .int .i64 fw, .int .i64 lg, .slice ba nb bk] ∧ Box (w7.alloc (.cells #[.slice (some ⟨pb, 0, none⟩) v.n v.n, .slice (some ⟨jb, 0, none⟩) v.m v.m] 38)) (tb) 43 #[.int .i64 d0, .int .i64 d1, .int .i64 d2, .int .i64 d3, .slice wa N wk] ∧ Box (w7.alloc (.cells #[.slice (some ⟨pb, 0, none⟩) v.n v.n, .slice (some ⟨jb, 0, none⟩) v.m v.m] 38)) w7.heap.size 38 #[.slice (some ⟨pb, 0, none⟩) v.n v.n, .slice (some ⟨jb, 0, none⟩) v.m v.m]) := ⟨M7.out.1.alloc M7.out.1.size _, M7.out.2.1.alloc _, M7.out.2.2.1.alloc _, M7.out.2.2.2.alloc _, Box.new _ _ _⟩
    have Q8 : Hid (VOwn w.heap.size 79 2 (w7.alloc (.cells #[.slice (some ⟨pb, 0, none⟩) v.n v.n, .slice (some ⟨jb, 0, none⟩) v.m v.m] 38)) (.slice wa N wk) N (intF (bkF fp fw nb B)) ∧ Below w7.heap.size w7 (w7.alloc (.cells #[.slice (some ⟨pb, 0, none⟩) v.n v.n, .slice (some ⟨jb, 0, none⟩) v.m v.m] 38))) := ⟨Q7.out.alloc _, bel1 _ _⟩
    clear M7 Q7
    go_upto_region 10 with fail
    generalize w7.alloc (.cells #[.slice (some ⟨pb, 0, none⟩) v.n v.n, .slice (some ⟨jb, 0, none⟩) v.m v.m] 38) = V8 at M8 Q8 ⊢
    generalize hxb : w7.heap.size = xb at M8 ⊢
    have a0 : V8.cell? ⟨w.heap.size, 0, none⟩ = some (.slice pa v.n pc) := M8.out.2.1.cell 0
    have a1 : V8.cell? ⟨w.heap.size, 1, none⟩ = some (.slice ja v.m jc) := M8.out.2.1.cell 1
    have b0 : V8.cell? ⟨w.heap.size + 1, 0, none⟩ = some (.int .i64 fp) := M8.out.2.2.1.cell 0
    have b1 : V8.cell? ⟨w.heap.size + 1, 1, none⟩ = some (.int .i64 fa) := M8.out.2.2.1.cell 1
    have b2 : V8.cell? ⟨w.heap.size + 1, 2, none⟩ = some (.int .i64 fw) := M8.out.2.2.1.cell 2
    have b3 : V8.cell? ⟨w.heap.size + 1, 3, none⟩ = some (.int .i64 lg) := M8.out.2.2.1.cell 3
    have b4 : V8.cell? ⟨w.heap.size + 1, 4, none⟩ = some (.slice ba nb bk) := M8.out.2.2.1.cell 4
    have c0 : V8.cell? ⟨tb, 0, none⟩ = some (.int .i64 d0) := M8.out.2.2.2.1.cell 0
    have c1 : V8.cell? ⟨tb, 1, none⟩ = some (.int .i64 d1) := M8.out.2.2.2.1.cell 1
    have c2 : V8.cell? ⟨tb, 2, none⟩ = some (.int .i64 d2) := M8.out.2.2.2.1.cell 2
    have c3 : V8.cell? ⟨tb, 3, none⟩ = some (.int .i64 d3) := M8.out.2.2.2.1.cell 3
    have c4 : V8.cell? ⟨tb, 4, none⟩ = some (.slice wa N wk) := M8.out.2.2.2.1.cell 4
    have p0 : V8.cell? ⟨xb, 0, none⟩ = some (.slice (some ⟨pb, 0, none⟩) v.n v.n) := M8.out.2.2.2.2.cell 0
    have p1 : V8.cell? ⟨xb, 1, none⟩ = some (.slice (some ⟨jb, 0, none⟩) v.m v.m) := M8.out.2.2.2.2.cell 1
    go_wp2_with fail
    clear a0 a1 b0 b1 b2 b3 b4 c0 c1 c2 c3 c4 p0 p1
    refine (toTrain9x fp fa fw lg nb B ba bk V8 hnb1 (H.out.2.2.1.mono (Nat.le_refl _) M8.out.1 (Nat.le_refl _))).mono ?_
    rintro e w9 ⟨bq, rfl, hO9, hb9⟩
    have M9 : Hid (Below w.heap.size w w9 ∧ Box w9 (w.heap.size) 25 #[.slice pa v.n pc, .slice ja v.m jc] ∧ Box w9 (w.heap.size + 1) 30 #[.int .i64 fp, .int .i64 fa, .int .i64 fw, .int .i64 lg, .slice ba nb bk] ∧ Box w9 (tb) 43 #[.int .i64 d0, .int .i64 d1, .int .i64 d2, .int .i64 d3, .slice wa N wk] ∧ Box w9 (xb) 38 #[.slice (some ⟨pb, 0, none⟩) v.n v.n, .slice (some ⟨jb, 0, none⟩) v.m v.m]) := ⟨M8.out.1.trans (hb9.mono M8.out.1.size), M8.out.2.1.mono hb9 (Nat.le_refl _), M8.out.2.2.1.mono hb9 (Nat.le_refl _), M8.out.2.2.2.1.mono hb9 (Nat.le_refl _), M8.out.2.2.2.2.mono hb9 (Nat.le_refl _)⟩
    have Q9 : Hid (VOwn w.heap.size 79 2 w9 (.slice wa N wk) N (intF (bkF fp fw nb B)) ∧ VOwn w7.heap.size 79 2 w9 (.slice (some ⟨bq, 0, none⟩) nb nb) nb (intF B) ∧ Below w7.heap.size w7 w9) := ⟨Q8.out.1.mono (Nat.le_refl _) hb9 (Nat.le_refl _), hO9.keep Q8.out.2.size (fun _ _ => rfl), Q8.out.2.trans (hb9.mono Q8.out.2.size)⟩
    clear hb9 hO9 M8 Q8
    have M10 : Hid (Below w.heap.size w (w9.alloc (.cells #[.int .i64 fp, .int .i64 fa, .int .i64 fw, .int .i64 lg, .slice (some ⟨bq, 0, none⟩) nb nb] 43)) ∧ Box (w9.alloc (.cells #[.int .i64 fp, .int .i64 fa, .int .i64 fw, .int .i64 lg, .slice (some ⟨bq, 0, none⟩) nb nb] 43)) (w.heap.size) 25 #[.slice pa v.n pc, .slice ja v.m jc] ∧ Box (w9.alloc (.cells #[.int .i64 fp, .int .i64 fa, .int .i64 fw, .int .i64 lg, .slice (some ⟨bq, 0, none⟩) nb nb] 43)) (w.heap.size + 1) 30 #[.int .i64 fp, .int .i64 fa, .int .i64 fw, .int .i64 lg, .slice ba nb bk] ∧ Box (w9.alloc (.cells #[.int .i64 fp, .int .i64 fa, .int .i64 fw, .int .i64 lg, .slice (some ⟨bq, 0, none⟩) nb nb] 43)) (tb) 43 #[.int .i64 d0, .int .i64 d1, .int .i64 d2, .int .i64 d3, .slice wa N wk] ∧ Box (w9.alloc (.cells #[.int .i64 fp, .int .i64 fa, .int .i64 fw, .int .i64 lg, .slice (some ⟨bq, 0, none⟩) nb nb] 43)) (xb) 38 #[.slice (some ⟨pb, 0, none⟩) v.n v.n, .slice (some ⟨jb, 0, none⟩) v.m v.m] ∧ Box (w9.alloc (.cells #[.int .i64 fp, .int .i64 fa, .int .i64 fw, .int .i64 lg, .slice (some ⟨bq, 0, none⟩) nb nb] 43)) w9.heap.size 43 #[.int .i64 fp, .int .i64 fa, .int .i64 fw, .int .i64 lg, .slice (some ⟨bq, 0, none⟩) nb nb]) := ⟨M9.out.1.alloc M9.out.1.size _, M9.out.2.1.alloc _, M9.out.2.2.1.alloc _, M9.out.2.2.2.1.alloc _, M9.out.2.2.2.2.alloc _, Box.new _ _ _⟩
    have Q10 : Hid (VOwn w.heap.size 79 2 (w9.alloc (.cells #[.int .i64 fp, .int .i64 fa, .int .i64 fw, .int .i64 lg, .slice (some ⟨bq, 0, none⟩) nb nb] 43)) (.slice wa N wk) N (intF (bkF fp fw nb B)) ∧ VOwn w7.heap.size 79 2 (w9.alloc (.cells #[.int .i64 fp, .int .i64 fa, .int .i64 fw, .int .i64 lg, .slice (some ⟨bq, 0, none⟩) nb nb] 43)) (.slice (some ⟨bq, 0, none⟩) nb nb) nb (intF B) ∧ Below w7.heap.size w7 (w9.alloc (.cells #[.int .i64 fp, .int .i64 fa, .int .i64 fw, .int .i64 lg, .slice (some ⟨bq, 0, none⟩) nb nb] 43))) := ⟨Q9.out.1.alloc _, Q9.out.2.1.alloc _, Q9.out.2.2.alloc Q9.out.2.2.size _⟩
    have HYB0 : Hid (w7.heap.size ≤ w9.heap.size) := Q9.out.2.2.size
    clear M9 Q9
    go_upto_region 11 with fail
    generalize w9.alloc (.cells #[.int .i64 fp, .int .i64 fa, .int .i64 fw, .int .i64 lg, .slice (some ⟨bq, 0, none⟩) nb nb] 43) = V10 at M10 Q10 ⊢
    generalize w9.heap.size = yb at M10 HYB0 ⊢
    have HBQ : Hid (w7.heap.size ≤ bq ∧ bq < V10.heap.size) := Q10.out.2.1.lt (g := bq) rfl
    have HV10 : Hid (w7.heap.size ≤ V10.heap.size) := Q10.out.2.2.size
    have a0 : V10.cell? ⟨w.heap.size, 0, none⟩ = some (.slice pa v.n pc) := M10.out.2.1.cell 0
    have a1 : V10.cell? ⟨w.heap.size, 1, none⟩ = some (.slice ja v.m jc) := M10.out.2.1.cell 1
    have b0 : V10.cell? ⟨w.heap.size + 1, 0, none⟩ = some (.int .i64 fp) := M10.out.2.2.1.cell 0
    have b1 : V10.cell? ⟨w.heap.size + 1, 1, none⟩ = some (.int .i64 fa) := M10.out.2.2.1.cell 1
    have b2 : V10.cell? ⟨w.heap.size + 1, 2, none⟩ = some (.int .i64 fw) := M10.out.2.2.1.cell 2
    have b3 : V10.cell? ⟨w.heap.size + 1, 3, none⟩ = some (.int .i64 lg) := M10.out.2.2.1.cell 3
    have b4 : V10.cell? ⟨w.heap.size + 1, 4, none⟩ = some (.slice ba nb bk) := M10.out.2.2.1.cell 4
    have c0 : V10.cell? ⟨tb, 0, none⟩ = some (.int .i64 d0) := M10.out.2.2.2.1.cell 0
    have c1 : V10.cell? ⟨tb, 1, none⟩ = some (.int .i64 d1) := M10.out.2.2.2.1.cell 1
    have c2 : V10.cell? ⟨tb, 2, none⟩ = some (.int .i64 d2) := M10.out.2.2.2.1.cell 2
    have c3 : V10.cell? ⟨tb, 3, none⟩ = some (.int .i64 d3) := M10.out.2.2.2.1.cell 3
    have c4 : V10.cell? ⟨tb, 4, none⟩ = some (.slice wa N wk) := M10.out.2.2.2.1.cell 4
    have p0 : V10.cell? ⟨xb, 0, none⟩ = some (.slice (some ⟨pb, 0, none⟩) v.n v.n) := M10.out.2.2.2.2.1.cell 0
    have p1 : V10.cell? ⟨xb, 1, none⟩ = some (.slice (some ⟨jb, 0, none⟩) v.m v.m) := M10.out.2.2.2.2.1.cell 1
    have q0 : V10.cell? ⟨yb, 0, none⟩ = some (.int .i64 fp) := M10.out.2.2.2.2.2.cell 0
    have q1 : V10.cell? ⟨yb, 1, none⟩ = some (.int .i64 fa) := M10.out.2.2.2.2.2.cell 1
    have q2 : V10.cell? ⟨yb, 2, none⟩ = some (.int .i64 fw) := M10.out.2.2.2.2.2.cell 2
    have q3 : V10.cell? ⟨yb, 3, none⟩ = some (.int .i64 lg) := M10.out.2.2.2.2.2.cell 3
    have q4 : V10.cell? ⟨yb, 4, none⟩ = some (.slice (some ⟨bq, 0, none⟩) nb nb) := M10.out.2.2.2.2.2.cell 4
    go_wp2_with fail
    clear a0 a1 b0 b1 b2 b3 b4 c0 c1 c2 c3 c4 p0 p1 q0 q1 q2 q3 q4
    refine (implTurned19 (some ⟨pb, 0, none⟩) v.n (some ⟨jb, 0, none⟩) v.m fp fa fw lg nb B bq 0 nb V10 hn1 hm1 hnb1 (Nat.le_refl _) hn (Nat.le_refl _) hm (HP7.out.1.at.mono (Nat.zero_le _) Q10.out.2.2 (Nat.le_refl _)) (HP7.out.2.1.at.mono (Nat.zero_le _) Q10.out.2.2 (Nat.le_refl _)) H.out.2.2.2.1 HNE2.out (Q10.out.2.1.vs.le (Nat.zero_le _))).mono ?_
    rintro e w11 ⟨ga, gk, he, ho, hb11⟩
    rw [HR.out.1, HR.out.2.1, HR.out.2.2.1, HR.out.2.2.2.1, HR.out.2.2.2.2] at he
    rw [HR.out.2.2.2.2] at ho
    subst he
    have M11 : Hid (Below w.heap.size w w11 ∧ Box w11 (w.heap.size) 25 #[.slice pa v.n pc, .slice ja v.m jc] ∧ Box w11 (w.heap.size + 1) 30 #[.int .i64 fp, .int .i64 fa, .int .i64 fw, .int .i64 lg, .slice ba nb bk] ∧ Box w11 (tb) 43 #[.int .i64 d0, .int .i64 d1, .int .i64 d2, .int .i64 d3, .slice wa N wk] ∧ Box w11 (xb) 38 #[.slice (some ⟨pb, 0, none⟩) v.n v.n, .slice (some ⟨jb, 0, none⟩) v.m v.m] ∧ Box w11 (yb) 43 #[.int .i64 fp, .int .i64 fa, .int .i64 fw, .int .i64 lg, .slice (some ⟨bq, 0, none⟩) nb nb]) := ⟨M10.out.1.trans (hb11.mono M10.out.1.size), M10.out.2.1.mono hb11 (Nat.le_refl _), M10.out.2.2.1.mono hb11 (Nat.le_refl _), M10.out.2.2.2.1.mono hb11 (Nat.le_refl _), M10.out.2.2.2.2.1.mono hb11 (Nat.le_refl _), M10.out.2.2.2.2.2.mono hb11 (Nat.le_refl _)⟩
    have Q11 : Hid (VOwn w.heap.size 79 2 w11 (.slice wa N wk) N (intF (bkF fp fw nb B)) ∧ VOwn w7.heap.size 79 2 w11 (.slice (some ⟨bq, 0, none⟩) nb nb) nb (intF B) ∧ VOwn V10.heap.size 79 2 w11 (.slice ga N gk) N (intF (bkF fp fw nb B)) ∧ Below w7.heap.size w7 w11) := ⟨Q10.out.1.mono (Nat.le_refl _) hb11 (Nat.le_refl _), Q10.out.2.1.mono (Nat.le_refl _) hb11 (Nat.le_refl _), ho, Q10.out.2.2.trans (hb11.mono Q10.out.2.2.size)⟩
    have HGB1 : Hid (V10.heap.size ≤ w11.heap.size) := hb11.size
    clear hb11 ho M10 Q10
    have M12 : Hid (Below w.heap.size w (w11.alloc (.cells #[.int .i64 d0, .int .i64 d1, .int .i64 d2, .int .i64 d3, .slice ga N gk] 43)) ∧ Box (w11.alloc (.cells #[.int .i64 d0, .int .i64 d1, .int .i64 d2, .int .i64 d3, .slice ga N gk] 43)) (w.heap.size) 25 #[.slice pa v.n pc, .slice ja v.m jc] ∧ Box (w11.alloc (.cells #[.int .i64 d0, .int .i64 d1, .int .i64 d2, .int .i64 d3, .slice ga N gk] 43)) (w.heap.size + 1) 30 #[.int .i64 fp, .int .i64 fa, .int .i64 fw, .int .i64 lg, .slice ba nb bk] ∧ Box (w11.alloc (.cells #[.int .i64 d0, .int .i64 d1, .int .i64 d2, .int .i64 d3, .slice ga N gk] 43)) (tb) 43 #[.int .i64 d0, .int .i64 d1, .int .i64 d2, .int .i64 d3, .slice wa N wk] ∧ Box (w11.alloc (.cells #[.int .i64 d0, .int .i64 d1, .int .i64 d2, .int .i64 d3, .slice ga N gk] 43)) (xb) 38 #[.slice (some ⟨pb, 0, none⟩) v.n v.n, .slice (some ⟨jb, 0, none⟩) v.m v.m] ∧ Box (w11.alloc (.cells #[.int .i64 d0, .int .i64 d1, .int .i64 d2, .int .i64 d3, .slice ga N gk] 43)) (yb) 43 #[.int .i64 fp, .int .i64 fa, .int .i64 fw, .int .i64 lg, .slice (some ⟨bq, 0, none⟩) nb nb] ∧ Box (w11.alloc (.cells #[.int .i64 d0, .int .i64 d1, .int .i64 d2, .int .i64 d3, .slice ga N gk] 43)) w11.heap.size 43 #[.int .i64 d0, .int .i64 d1, .int .i64 d2, .int .i64 d3, .slice ga N gk]) := ⟨M11.out.1.alloc M11.out.1.size _, M11.out.2.1.alloc _, M11.out.2.2.1.alloc _, M11.out.2.2.2.1.alloc _, M11.out.2.2.2.2.1.alloc _, M11.out.2.2.2.2.2.alloc _, Box.new _ _ _⟩
    have Q12 : Hid (VOwn w.heap.size 79 2 (w11.alloc (.cells #[.int .i64 d0, .int .i64 d1, .int .i64 d2, .int .i64 d3, .slice ga N gk] 43)) (.slice wa N wk) N (intF (bkF fp fw nb B)) ∧ VOwn w7.heap.size 79 2 (w11.alloc (.cells #[.int .i64 d0, .int .i64 d1, .int .i64 d2, .int .i64 d3, .slice ga N gk] 43)) (.slice (some ⟨bq, 0, none⟩) nb nb) nb (intF B) ∧ VOwn V10.heap.size 79 2 (w11.alloc (.cells #[.int .i64 d0, .int .i64 d1, .int .i64 d2, .int .i64 d3, .slice ga N gk] 43)) (.slice ga N gk) N (intF (bkF fp fw nb B)) ∧ Below w7.heap.size w7 (w11.alloc (.cells #[.int .i64 d0, .int .i64 d1, .int .i64 d2, .int .i64 d3, .slice ga N gk] 43))) := ⟨Q11.out.1.alloc _, Q11.out.2.1.alloc _, Q11.out.2.2.1.alloc _, Q11.out.2.2.2.alloc Q11.out.2.2.2.size _⟩
    have HGB0 : Hid (w7.heap.size ≤ w11.heap.size) := Q11.out.2.2.2.size
    clear M11 Q11
    go_upto_region 12 with fail
    generalize w11.alloc (.cells #[.int .i64 d0, .int .i64 d1, .int .i64 d2, .int .i64 d3, .slice ga N gk] 43) = V12 at M12 Q12 ⊢
    generalize w11.heap.size = gb at M12 HGB0 HGB1 ⊢
    have a0 : V12.cell? ⟨w.heap.size, 0, none⟩ = some (.slice pa v.n pc) := M12.out.2.1.cell 0
    have a1 : V12.cell? ⟨w.heap.size, 1, none⟩ = some (.slice ja v.m jc) := M12.out.2.1.cell 1
    have b0 : V12.cell? ⟨w.heap.size + 1, 0, none⟩ = some (.int .i64 fp) := M12.out.2.2.1.cell 0
    have b1 : V12.cell? ⟨w.heap.size + 1, 1, none⟩ = some (.int .i64 fa) := M12.out.2.2.1.cell 1
    have b2 : V12.cell? ⟨w.heap.size + 1, 2, none⟩ = some (.int .i64 fw) := M12.out.2.2.1.cell 2
    have b3 : V12.cell? ⟨w.heap.size + 1, 3, none⟩ = some (.int .i64 lg) := M12.out.2.2.1.cell 3
    have b4 : V12.cell? ⟨w.heap.size + 1, 4, none⟩ = some (.slice ba nb bk) := M12.out.2.2.1.cell 4
    have c0 : V12.cell? ⟨tb, 0, none⟩ = some (.int .i64 d0) := M12.out.2.2.2.1.cell 0
    have c1 : V12.cell? ⟨tb, 1, none⟩ = some (.int .i64 d1) := M12.out.2.2.2.1.cell 1
    have c2 : V12.cell? ⟨tb, 2, none⟩ = some (.int .i64 d2) := M12.out.2.2.2.1.cell 2
    have c3 : V12.cell? ⟨tb, 3, none⟩ = some (.int .i64 d3) := M12.out.2.2.2.1.cell 3
    have c4 : V12.cell? ⟨tb, 4, none⟩ = some (.slice wa N wk) := M12.out.2.2.2.1.cell 4
    have p0 : V12.cell? ⟨xb, 0, none⟩ = some (.slice (some ⟨pb, 0, none⟩) v.n v.n) := M12.out.2.2.2.2.1.cell 0
    have p1 : V12.cell? ⟨xb, 1, none⟩ = some (.slice (some ⟨jb, 0, none⟩) v.m v.m) := M12.out.2.2.2.2.1.cell 1
    have q0 : V12.cell? ⟨yb, 0, none⟩ = some (.int .i64 fp) := M12.out.2.2.2.2.2.1.cell 0
    have q1 : V12.cell? ⟨yb, 1, none⟩ = some (.int .i64 fa) := M12.out.2.2.2.2.2.1.cell 1
    have q2 : V12.cell? ⟨yb, 2, none⟩ = some (.int .i64 fw) := M12.out.2.2.2.2.2.1.cell 2
    have q3 : V12.cell? ⟨yb, 3, none⟩ = some (.int .i64 lg) := M12.out.2.2.2.2.2.1.cell 3
    have q4 : V12.cell? ⟨yb, 4, none⟩ = some (.slice (some ⟨bq, 0, none⟩) nb nb) := M12.out.2.2.2.2.2.1.cell 4
    have s0 : V12.cell? ⟨gb, 0, none⟩ = some (.int .i64 d0) := M12.out.2.2.2.2.2.2.cell 0
    have s1 : V12.cell? ⟨gb, 1, none⟩ = some (.int .i64 d1) := M12.out.2.2.2.2.2.2.cell 1
    have s2 : V12.cell? ⟨gb, 2, none⟩ = some (.int .i64 d2) := M12.out.2.2.2.2.2.2.cell 2
    have s3 : V12.cell? ⟨gb, 3, none⟩ = some (.int .i64 d3) := M12.out.2.2.2.2.2.2.cell 3
    have s4 : V12.cell? ⟨gb, 4, none⟩ = some (.slice ga N gk) := M12.out.2.2.2.2.2.2.cell 4
    go_wp2_with fail
    clear a0 a1 b0 b1 b2 b3 b4 c0 c1 c2 c3 c4 p0 p1 q0 q1 q2 q3 q4 s0 s1 s2 s3 s4
    refine (eqTrain18 d0 d1 d2 d3 N (bkF fp fw nb B) ga wa gk wk V12 hN (Q12.out.2.2.1.vs.le (Nat.zero_le _)) (Q12.out.1.vs.le (Nat.zero_le _))).mono ?_
    rintro e w13 ⟨rfl, hb13⟩
    have M13 : Hid (Below w.heap.size w w13 ∧ Box w13 (w.heap.size) 25 #[.slice pa v.n pc, .slice ja v.m jc] ∧ Box w13 (w.heap.size + 1) 30 #[.int .i64 fp, .int .i64 fa, .int .i64 fw, .int .i64 lg, .slice ba nb bk] ∧ Box w13 (tb) 43 #[.int .i64 d0, .int .i64 d1, .int .i64 d2, .int .i64 d3, .slice wa N wk] ∧ Box w13 (xb) 38 #[.slice (some ⟨pb, 0, none⟩) v.n v.n, .slice (some ⟨jb, 0, none⟩) v.m v.m] ∧ Box w13 (yb) 43 #[.int .i64 fp, .int .i64 fa, .int .i64 fw, .int .i64 lg, .slice (some ⟨bq, 0, none⟩) nb nb] ∧ Box w13 (gb) 43 #[.int .i64 d0, .int .i64 d1, .int .i64 d2, .int .i64 d3, .slice ga N gk]) := ⟨M12.out.1.trans (hb13.mono M12.out.1.size), M12.out.2.1.mono hb13 (Nat.le_refl _), M12.out.2.2.1.mono hb13 (Nat.le_refl _), M12.out.2.2.2.1.mono hb13 (Nat.le_refl _), M12.out.2.2.2.2.1.mono hb13 (Nat.le_refl _), M12.out.2.2.2.2.2.1.mono hb13 (Nat.le_refl _), M12.out.2.2.2.2.2.2.mono hb13 (Nat.le_refl _)⟩
    have Q13 : Hid (VOwn w.heap.size 79 2 w13 (.slice wa N wk) N (intF (bkF fp fw nb B)) ∧ VOwn w7.heap.size 79 2 w13 (.slice (some ⟨bq, 0, none⟩) nb nb) nb (intF B) ∧ VOwn V10.heap.size 79 2 w13 (.slice ga N gk) N (intF (bkF fp fw nb B)) ∧ Below w7.heap.size w7 w13) := ⟨Q12.out.1.mono (Nat.le_refl _) hb13 (Nat.le_refl _), Q12.out.2.1.mono (Nat.le_refl _) hb13 (Nat.le_refl _), Q12.out.2.2.1.mono (Nat.le_refl _) hb13 (Nat.le_refl _), Q12.out.2.2.2.trans (hb13.mono Q12.out.2.2.2.size)⟩
    have MD : Hid (Below w.heap.size w w13.drew ∧ Box w13.drew (w.heap.size) 25 #[.slice pa v.n pc, .slice ja v.m jc] ∧ Box w13.drew (w.heap.size + 1) 30 #[.int .i64 fp, .int .i64 fa, .int .i64 fw, .int .i64 lg, .slice ba nb bk] ∧ Box w13.drew (tb) 43 #[.int .i64 d0, .int .i64 d1, .int .i64 d2, .int .i64 d3, .slice wa N wk] ∧ Box w13.drew (xb) 38 #[.slice (some ⟨pb, 0, none⟩) v.n v.n, .slice (some ⟨jb, 0, none⟩) v.m v.m] ∧ Box w13.drew (yb) 43 #[.int .i64 fp, .int .i64 fa, .int .i64 fw, .int .i64 lg, .slice (some ⟨bq, 0, none⟩) nb nb] ∧ Box w13.drew (gb) 43 #[.int .i64 d0, .int .i64 d1, .int .i64 d2, .int .i64 d3, .slice ga N gk]) := ⟨M13.out.1.drew, M13.out.2.1.drew, M13.out.2.2.1.drew, M13.out.2.2.2.1.drew, M13.out.2.2.2.2.1.drew, M13.out.2.2.2.2.2.1.drew, M13.out.2.2.2.2.2.2.drew⟩
    have QD : Hid (VOwn w.heap.size 79 2 w13.drew (.slice wa N wk) N (intF (bkF fp fw nb B)) ∧ VOwn w7.heap.size 79 2 w13.drew (.slice (some ⟨bq, 0, none⟩) nb nb) nb (intF B) ∧ VOwn V10.heap.size 79 2 w13.drew (.slice ga N gk) N (intF (bkF fp fw nb B)) ∧ Below w7.heap.size w7 w13.drew) := ⟨Q13.out.1, Q13.out.2.1, Q13.out.2.2.1, Q13.out.2.2.2.drew⟩
    clear hb13 M12 Q12
    have a0 : w13.cell? ⟨w.heap.size, 0, none⟩ = some (.slice pa v.n pc) := M13.out.2.1.cell 0
    have a1 : w13.cell? ⟨w.heap.size, 1, none⟩ = some (.slice ja v.m jc) := M13.out.2.1.cell 1
    have b0 : w13.cell? ⟨w.heap.size + 1, 0, none⟩ = some (.int .i64 fp) := M13.out.2.2.1.cell 0
    have b1 : w13.cell? ⟨w.heap.size + 1, 1, none⟩ = some (.int .i64 fa) := M13.out.2.2.1.cell 1
    have b2 : w13.cell? ⟨w.heap.size + 1, 2, none⟩ = some (.int .i64 fw) := M13.out.2.2.1.cell 2
    have b3 : w13.cell? ⟨w.heap.size + 1, 3, none⟩ = some (.int .i64 lg) := M13.out.2.2.1.cell 3
    have b4 : w13.cell? ⟨w.heap.size + 1, 4, none⟩ = some (.slice ba nb bk) := M13.out.2.2.1.cell 4
    have c0 : w13.cell? ⟨tb, 0, none⟩ = some (.int .i64 d0) := M13.out.2.2.2.1.cell 0
    have c1 : w13.cell? ⟨tb, 1, none⟩ = some (.int .i64 d1) := M13.out.2.2.2.1.cell 1
    have c2 : w13.cell? ⟨tb, 2, none⟩ = some (.int .i64 d2) := M13.out.2.2.2.1.cell 2
    have c3 : w13.cell? ⟨tb, 3, none⟩ = some (.int .i64 d3) := M13.out.2.2.2.1.cell 3
    have c4 : w13.cell? ⟨tb, 4, none⟩ = some (.slice wa N wk) := M13.out.2.2.2.1.cell 4
    have p0 : w13.cell? ⟨xb, 0, none⟩ = some (.slice (some ⟨pb, 0, none⟩) v.n v.n) := M13.out.2.2.2.2.1.cell 0
    have p1 : w13.cell? ⟨xb, 1, none⟩ = some (.slice (some ⟨jb, 0, none⟩) v.m v.m) := M13.out.2.2.2.2.1.cell 1
    have q0 : w13.cell? ⟨yb, 0, none⟩ = some (.int .i64 fp) := M13.out.2.2.2.2.2.1.cell 0
    have q1 : w13.cell? ⟨yb, 1, none⟩ = some (.int .i64 fa) := M13.out.2.2.2.2.2.1.cell 1
    have q2 : w13.cell? ⟨yb, 2, none⟩ = some (.int .i64 fw) := M13.out.2.2.2.2.2.1.cell 2
    have q3 : w13.cell? ⟨yb, 3, none⟩ = some (.int .i64 lg) := M13.out.2.2.2.2.2.1.cell 3
    have q4 : w13.cell? ⟨yb, 4, none⟩ = some (.slice (some ⟨bq, 0, none⟩) nb nb) := M13.out.2.2.2.2.2.1.cell 4
    have s0 : w13.cell? ⟨gb, 0, none⟩ = some (.int .i64 d0) := M13.out.2.2.2.2.2.2.cell 0
    have s1 : w13.cell? ⟨gb, 1, none⟩ = some (.int .i64 d1) := M13.out.2.2.2.2.2.2.cell 1
    have s2 : w13.cell? ⟨gb, 2, none⟩ = some (.int .i64 d2) := M13.out.2.2.2.2.2.2.cell 2
    have s3 : w13.cell? ⟨gb, 3, none⟩ = some (.int .i64 d3) := M13.out.2.2.2.2.2.2.cell 3
    have s4 : w13.cell? ⟨gb, 4, none⟩ = some (.slice ga N gk) := M13.out.2.2.2.2.2.2.cell 4
    go_wp2_with fail
    refine wp_region_held_drew (S := (fun wx : World => wx.cell? ⟨w.heap.size, 0, none⟩ = some (.slice pa v.n pc) ∧ wx.cell? ⟨w.heap.size, 1, none⟩ = some (.slice ja v.m jc) ∧ wx.cell? ⟨w.heap.size + 1, 0, none⟩ = some (.int .i64 fp) ∧ wx.cell? ⟨w.heap.size + 1, 1, none⟩ = some (.int .i64 fa) ∧ wx.cell? ⟨w.heap.size + 1, 2, none⟩ = some (.int .i64 fw) ∧ wx.cell? ⟨w.heap.size + 1, 3, none⟩ = some (.int .i64 lg) ∧ wx.cell? ⟨w.heap.size + 1, 4, none⟩ = some (.slice ba nb bk) ∧ wx.cell? ⟨tb, 0, none⟩ = some (.int .i64 d0) ∧ wx.cell? ⟨tb, 1, none⟩ = some (.int .i64 d1) ∧ wx.cell? ⟨tb, 2, none⟩ = some (.int .i64 d2) ∧ wx.cell? ⟨tb, 3, none⟩ = some (.int .i64 d3) ∧ wx.cell? ⟨tb, 4, none⟩ = some (.slice wa N wk) ∧ wx.cell? ⟨xb, 0, none⟩ = some (.slice (some ⟨pb, 0, none⟩) v.n v.n) ∧ wx.cell? ⟨xb, 1, none⟩ = some (.slice (some ⟨jb, 0, none⟩) v.m v.m) ∧ wx.cell? ⟨yb, 0, none⟩ = some (.int .i64 fp) ∧ wx.cell? ⟨yb, 1, none⟩ = some (.int .i64 fa) ∧ wx.cell? ⟨yb, 2, none⟩ = some (.int .i64 fw) ∧ wx.cell? ⟨yb, 3, none⟩ = some (.int .i64 lg) ∧ wx.cell? ⟨yb, 4, none⟩ = some (.slice (some ⟨bq, 0, none⟩) nb nb) ∧ wx.cell? ⟨gb, 0, none⟩ = some (.int .i64 d0) ∧ wx.cell? ⟨gb, 1, none⟩ = some (.int .i64 d1) ∧ wx.cell? ⟨gb, 2, none⟩ = some (.int .i64 d2) ∧ wx.cell? ⟨gb, 3, none⟩ = some (.int .i64 d3) ∧ wx.cell? ⟨gb, 4, none⟩ = some (.slice ga N gk))) (by kernel_rfl) ?_ (fun hHeld => ?_)
    · exact ⟨a0, a1, b0, b1, b2, b3, b4, c0, c1, c2, c3, c4, p0, p1, q0, q1, q2, q3, q4, s0, s1, s2, s3, s4⟩
    refine tk 0 ?_
    refine tk 1 ?_
    refine rl 2 fun K hK => ?_
    go_simp
    refine (toNetR pa pc ja jc _ hn1 hm1 (H.out.1.mono (Nat.le_refl _) MD.out.1 (Nat.le_refl _)) (H.out.2.1.mono (Nat.le_refl _) MD.out.1 (Nat.le_refl _)) HNE.out).mono ?_
    rintro e wx1 ⟨pa3, ja3, rfl, hPa, hJa, hba⟩
    have Ma : Hid (Below w.heap.size w wx1 ∧ Box wx1 (w.heap.size) 25 #[.slice pa v.n pc, .slice ja v.m jc] ∧ Box wx1 (w.heap.size + 1) 30 #[.int .i64 fp, .int .i64 fa, .int .i64 fw, .int .i64 lg, .slice ba nb bk] ∧ Box wx1 (tb) 43 #[.int .i64 d0, .int .i64 d1, .int .i64 d2, .int .i64 d3, .slice wa N wk] ∧ Box wx1 (xb) 38 #[.slice (some ⟨pb, 0, none⟩) v.n v.n, .slice (some ⟨jb, 0, none⟩) v.m v.m] ∧ Box wx1 (yb) 43 #[.int .i64 fp, .int .i64 fa, .int .i64 fw, .int .i64 lg, .slice (some ⟨bq, 0, none⟩) nb nb] ∧ Box wx1 (gb) 43 #[.int .i64 d0, .int .i64 d1, .int .i64 d2, .int .i64 d3, .slice ga N gk]) := ⟨MD.out.1.trans (hba.mono MD.out.1.size), MD.out.2.1.mono hba (Nat.le_refl _), MD.out.2.2.1.mono hba (Nat.le_refl _), MD.out.2.2.2.1.mono hba (Nat.le_refl _), MD.out.2.2.2.2.1.mono hba (Nat.le_refl _), MD.out.2.2.2.2.2.1.mono hba (Nat.le_refl _), MD.out.2.2.2.2.2.2.mono hba (Nat.le_refl _)⟩
    have Qa : Hid ((PsAt 0 wx1 pa3 v.n v.P ∧ JsAt 0 wx1 ja3 v.m v.J) ∧ VOwn w.heap.size 79 2 wx1 (.slice wa N wk) N (intF (bkF fp fw nb B)) ∧ VOwn w7.heap.size 79 2 wx1 (.slice (some ⟨bq, 0, none⟩) nb nb) nb (intF B) ∧ VOwn V10.heap.size 79 2 wx1 (.slice ga N gk) N (intF (bkF fp fw nb B)) ∧ Below w7.heap.size w7 wx1) := ⟨⟨hPa, hJa⟩, ⟨QD.out.1.mono (Nat.le_refl _) hba (Nat.le_refl _), QD.out.2.1.mono (Nat.le_refl _) hba (Nat.le_refl _), QD.out.2.2.1.mono (Nat.le_refl _) hba (Nat.le_refl _), QD.out.2.2.2.trans (hba.mono QD.out.2.2.2.size)⟩⟩
    clear hba hPa hJa
    go_wp2_with fail
    refine hK.out _ _ ?_ (fun hHeld2 => ?_)
    · exact ⟨Ma.out.2.1.cell 0, Ma.out.2.1.cell 1, Ma.out.2.2.1.cell 0, Ma.out.2.2.1.cell 1, Ma.out.2.2.1.cell 2, Ma.out.2.2.1.cell 3, Ma.out.2.2.1.cell 4, Ma.out.2.2.2.1.cell 0, Ma.out.2.2.2.1.cell 1, Ma.out.2.2.2.1.cell 2, Ma.out.2.2.2.1.cell 3, Ma.out.2.2.2.1.cell 4, Ma.out.2.2.2.2.1.cell 0, Ma.out.2.2.2.2.1.cell 1, Ma.out.2.2.2.2.2.1.cell 0, Ma.out.2.2.2.2.2.1.cell 1, Ma.out.2.2.2.2.2.1.cell 2, Ma.out.2.2.2.2.2.1.cell 3, Ma.out.2.2.2.2.2.1.cell 4, Ma.out.2.2.2.2.2.2.cell 0, Ma.out.2.2.2.2.2.2.cell 1, Ma.out.2.2.2.2.2.2.cell 2, Ma.out.2.2.2.2.2.2.cell 3, Ma.out.2.2.2.2.2.2.cell 4⟩
    clear hK K
    refine rl 3 fun K hK => ?_
    go_simp
    refine (eqNet10 (some ⟨pb, 0, none⟩) pa3 v.n v.n v.n v.P (some ⟨jb, 0, none⟩) ja3 v.m v.m v.m v.J wx1 hn1 hm1 (HP7.out.1.at.mono (Nat.zero_le _) Qa.out.2.2.2.2 (Nat.le_refl _)) Qa.out.1.1 (HP7.out.2.1.at.mono (Nat.zero_le _) Qa.out.2.2.2.2 (Nat.le_refl _)) Qa.out.1.2 HNE.out).mono ?_
    rintro e wx2 ⟨rfl, hbb⟩
    have Mb : Hid (Below w.heap.size w wx2 ∧ Box wx2 (w.heap.size) 25 #[.slice pa v.n pc, .slice ja v.m jc] ∧ Box wx2 (w.heap.size + 1) 30 #[.int .i64 fp, .int .i64 fa, .int .i64 fw, .int .i64 lg, .slice ba nb bk] ∧ Box wx2 (tb) 43 #[.int .i64 d0, .int .i64 d1, .int .i64 d2, .int .i64 d3, .slice wa N wk] ∧ Box wx2 (xb) 38 #[.slice (some ⟨pb, 0, none⟩) v.n v.n, .slice (some ⟨jb, 0, none⟩) v.m v.m] ∧ Box wx2 (yb) 43 #[.int .i64 fp, .int .i64 fa, .int .i64 fw, .int .i64 lg, .slice (some ⟨bq, 0, none⟩) nb nb] ∧ Box wx2 (gb) 43 #[.int .i64 d0, .int .i64 d1, .int .i64 d2, .int .i64 d3, .slice ga N gk]) := ⟨Ma.out.1.trans (hbb.mono Ma.out.1.size), Ma.out.2.1.mono hbb (Nat.le_refl _), Ma.out.2.2.1.mono hbb (Nat.le_refl _), Ma.out.2.2.2.1.mono hbb (Nat.le_refl _), Ma.out.2.2.2.2.1.mono hbb (Nat.le_refl _), Ma.out.2.2.2.2.2.1.mono hbb (Nat.le_refl _), Ma.out.2.2.2.2.2.2.mono hbb (Nat.le_refl _)⟩
    have Qb : Hid (VOwn w.heap.size 79 2 wx2 (.slice wa N wk) N (intF (bkF fp fw nb B)) ∧ VOwn w7.heap.size 79 2 wx2 (.slice (some ⟨bq, 0, none⟩) nb nb) nb (intF B) ∧ VOwn V10.heap.size 79 2 wx2 (.slice ga N gk) N (intF (bkF fp fw nb B)) ∧ Below w7.heap.size w7 wx2) := ⟨Qa.out.2.1.mono (Nat.le_refl _) hbb (Nat.le_refl _), Qa.out.2.2.1.mono (Nat.le_refl _) hbb (Nat.le_refl _), Qa.out.2.2.2.1.mono (Nat.le_refl _) hbb (Nat.le_refl _), Qa.out.2.2.2.2.trans (hbb.mono Qa.out.2.2.2.2.size)⟩
    clear hbb
    go_wp2_with fail
    refine hK.out _ _ ?_ (fun hHeld3 => ?_)
    · exact ⟨Mb.out.2.1.cell 0, Mb.out.2.1.cell 1, Mb.out.2.2.1.cell 0, Mb.out.2.2.1.cell 1, Mb.out.2.2.1.cell 2, Mb.out.2.2.1.cell 3, Mb.out.2.2.1.cell 4, Mb.out.2.2.2.1.cell 0, Mb.out.2.2.2.1.cell 1, Mb.out.2.2.2.1.cell 2, Mb.out.2.2.2.1.cell 3, Mb.out.2.2.2.1.cell 4, Mb.out.2.2.2.2.1.cell 0, Mb.out.2.2.2.2.1.cell 1, Mb.out.2.2.2.2.2.1.cell 0, Mb.out.2.2.2.2.2.1.cell 1, Mb.out.2.2.2.2.2.1.cell 2, Mb.out.2.2.2.2.2.1.cell 3, Mb.out.2.2.2.2.2.1.cell 4, Mb.out.2.2.2.2.2.2.cell 0, Mb.out.2.2.2.2.2.2.cell 1, Mb.out.2.2.2.2.2.2.cell 2, Mb.out.2.2.2.2.2.2.cell 3, Mb.out.2.2.2.2.2.2.cell 4⟩
    clear hK K
    refine tk 4 ?_
    refine wpAnyH_done (by kernel_rfl) ?_ _
    clear a0 a1 b0 b1 b2 b3 b4 c0 c1 c2 c3 c4 p0 p1 q0 q1 q2 q3 q4 s0 s1 s2 s3 s4 MD QD Ma Qa M13 Q13
    have ME : Hid (Below w.heap.size w wx2.drew ∧ Box wx2.drew (w.heap.size) 25 #[.slice pa v.n pc, .slice ja v.m jc] ∧ Box wx2.drew (w.heap.size + 1) 30 #[.int .i64 fp, .int .i64 fa, .int .i64 fw, .int .i64 lg, .slice ba nb bk] ∧ Box wx2.drew (tb) 43 #[.int .i64 d0, .int .i64 d1, .int .i64 d2, .int .i64 d3, .slice wa N wk] ∧ Box wx2.drew (xb) 38 #[.slice (some ⟨pb, 0, none⟩) v.n v.n, .slice (some ⟨jb, 0, none⟩) v.m v.m] ∧ Box wx2.drew (yb) 43 #[.int .i64 fp, .int .i64 fa, .int .i64 fw, .int .i64 lg, .slice (some ⟨bq, 0, none⟩) nb nb] ∧ Box wx2.drew (gb) 43 #[.int .i64 d0, .int .i64 d1, .int .i64 d2, .int .i64 d3, .slice ga N gk]) := ⟨Mb.out.1.drew, Mb.out.2.1.drew, Mb.out.2.2.1.drew, Mb.out.2.2.2.1.drew, Mb.out.2.2.2.2.1.drew, Mb.out.2.2.2.2.2.1.drew, Mb.out.2.2.2.2.2.2.drew⟩
    have QE : Hid (VOwn w.heap.size 79 2 wx2.drew (.slice wa N wk) N (intF (bkF fp fw nb B)) ∧ VOwn w7.heap.size 79 2 wx2.drew (.slice (some ⟨bq, 0, none⟩) nb nb) nb (intF B) ∧ VOwn V10.heap.size 79 2 wx2.drew (.slice ga N gk) N (intF (bkF fp fw nb B)) ∧ Below w7.heap.size w7 wx2.drew) := ⟨Qb.out.1, Qb.out.2.1, Qb.out.2.2.1, Qb.out.2.2.2.drew⟩
    have a0 : wx2.cell? ⟨w.heap.size, 0, none⟩ = some (.slice pa v.n pc) := Mb.out.2.1.cell 0
    have a1 : wx2.cell? ⟨w.heap.size, 1, none⟩ = some (.slice ja v.m jc) := Mb.out.2.1.cell 1
    have b0 : wx2.cell? ⟨w.heap.size + 1, 0, none⟩ = some (.int .i64 fp) := Mb.out.2.2.1.cell 0
    have b1 : wx2.cell? ⟨w.heap.size + 1, 1, none⟩ = some (.int .i64 fa) := Mb.out.2.2.1.cell 1
    have b2 : wx2.cell? ⟨w.heap.size + 1, 2, none⟩ = some (.int .i64 fw) := Mb.out.2.2.1.cell 2
    have b3 : wx2.cell? ⟨w.heap.size + 1, 3, none⟩ = some (.int .i64 lg) := Mb.out.2.2.1.cell 3
    have b4 : wx2.cell? ⟨w.heap.size + 1, 4, none⟩ = some (.slice ba nb bk) := Mb.out.2.2.1.cell 4
    have c0 : wx2.cell? ⟨tb, 0, none⟩ = some (.int .i64 d0) := Mb.out.2.2.2.1.cell 0
    have c1 : wx2.cell? ⟨tb, 1, none⟩ = some (.int .i64 d1) := Mb.out.2.2.2.1.cell 1
    have c2 : wx2.cell? ⟨tb, 2, none⟩ = some (.int .i64 d2) := Mb.out.2.2.2.1.cell 2
    have c3 : wx2.cell? ⟨tb, 3, none⟩ = some (.int .i64 d3) := Mb.out.2.2.2.1.cell 3
    have c4 : wx2.cell? ⟨tb, 4, none⟩ = some (.slice wa N wk) := Mb.out.2.2.2.1.cell 4
    have p0 : wx2.cell? ⟨xb, 0, none⟩ = some (.slice (some ⟨pb, 0, none⟩) v.n v.n) := Mb.out.2.2.2.2.1.cell 0
    have p1 : wx2.cell? ⟨xb, 1, none⟩ = some (.slice (some ⟨jb, 0, none⟩) v.m v.m) := Mb.out.2.2.2.2.1.cell 1
    have q0 : wx2.cell? ⟨yb, 0, none⟩ = some (.int .i64 fp) := Mb.out.2.2.2.2.2.1.cell 0
    have q1 : wx2.cell? ⟨yb, 1, none⟩ = some (.int .i64 fa) := Mb.out.2.2.2.2.2.1.cell 1
    have q2 : wx2.cell? ⟨yb, 2, none⟩ = some (.int .i64 fw) := Mb.out.2.2.2.2.2.1.cell 2
    have q3 : wx2.cell? ⟨yb, 3, none⟩ = some (.int .i64 lg) := Mb.out.2.2.2.2.2.1.cell 3
    have q4 : wx2.cell? ⟨yb, 4, none⟩ = some (.slice (some ⟨bq, 0, none⟩) nb nb) := Mb.out.2.2.2.2.2.1.cell 4
    have s0 : wx2.cell? ⟨gb, 0, none⟩ = some (.int .i64 d0) := Mb.out.2.2.2.2.2.2.cell 0
    have s1 : wx2.cell? ⟨gb, 1, none⟩ = some (.int .i64 d1) := Mb.out.2.2.2.2.2.2.cell 1
    have s2 : wx2.cell? ⟨gb, 2, none⟩ = some (.int .i64 d2) := Mb.out.2.2.2.2.2.2.cell 2
    have s3 : wx2.cell? ⟨gb, 3, none⟩ = some (.int .i64 d3) := Mb.out.2.2.2.2.2.2.cell 3
    have s4 : wx2.cell? ⟨gb, 4, none⟩ = some (.slice ga N gk) := Mb.out.2.2.2.2.2.2.cell 4
    go_wp2_with fail
    refine wp_region_held_drew (S := (fun wx : World => wx.cell? ⟨w.heap.size, 0, none⟩ = some (.slice pa v.n pc) ∧ wx.cell? ⟨w.heap.size, 1, none⟩ = some (.slice ja v.m jc) ∧ wx.cell? ⟨w.heap.size + 1, 0, none⟩ = some (.int .i64 fp) ∧ wx.cell? ⟨w.heap.size + 1, 1, none⟩ = some (.int .i64 fa) ∧ wx.cell? ⟨w.heap.size + 1, 2, none⟩ = some (.int .i64 fw) ∧ wx.cell? ⟨w.heap.size + 1, 3, none⟩ = some (.int .i64 lg) ∧ wx.cell? ⟨w.heap.size + 1, 4, none⟩ = some (.slice ba nb bk) ∧ wx.cell? ⟨tb, 0, none⟩ = some (.int .i64 d0) ∧ wx.cell? ⟨tb, 1, none⟩ = some (.int .i64 d1) ∧ wx.cell? ⟨tb, 2, none⟩ = some (.int .i64 d2) ∧ wx.cell? ⟨tb, 3, none⟩ = some (.int .i64 d3) ∧ wx.cell? ⟨tb, 4, none⟩ = some (.slice wa N wk) ∧ wx.cell? ⟨xb, 0, none⟩ = some (.slice (some ⟨pb, 0, none⟩) v.n v.n) ∧ wx.cell? ⟨xb, 1, none⟩ = some (.slice (some ⟨jb, 0, none⟩) v.m v.m) ∧ wx.cell? ⟨yb, 0, none⟩ = some (.int .i64 fp) ∧ wx.cell? ⟨yb, 1, none⟩ = some (.int .i64 fa) ∧ wx.cell? ⟨yb, 2, none⟩ = some (.int .i64 fw) ∧ wx.cell? ⟨yb, 3, none⟩ = some (.int .i64 lg) ∧ wx.cell? ⟨yb, 4, none⟩ = some (.slice (some ⟨bq, 0, none⟩) nb nb) ∧ wx.cell? ⟨gb, 0, none⟩ = some (.int .i64 d0) ∧ wx.cell? ⟨gb, 1, none⟩ = some (.int .i64 d1) ∧ wx.cell? ⟨gb, 2, none⟩ = some (.int .i64 d2) ∧ wx.cell? ⟨gb, 3, none⟩ = some (.int .i64 d3) ∧ wx.cell? ⟨gb, 4, none⟩ = some (.slice ga N gk))) (by kernel_rfl) ?_ (fun hHeld => ?_)
    · exact ⟨a0, a1, b0, b1, b2, b3, b4, c0, c1, c2, c3, c4, p0, p1, q0, q1, q2, q3, q4, s0, s1, s2, s3, s4⟩
    refine tk 0 ?_
    refine tk 1 ?_
    refine rl 2 fun K hK => ?_
    go_simp
    refine (toTrain16 fp fa fw lg nb B ba bk _ hnb1 (H.out.2.2.1.mono (Nat.le_refl _) ME.out.1 (Nat.le_refl _))).mono ?_
    rintro e wx3 ⟨bz, rfl, hBc, hbc⟩
    have Mc : Hid (Below w.heap.size w wx3 ∧ Box wx3 (w.heap.size) 25 #[.slice pa v.n pc, .slice ja v.m jc] ∧ Box wx3 (w.heap.size + 1) 30 #[.int .i64 fp, .int .i64 fa, .int .i64 fw, .int .i64 lg, .slice ba nb bk] ∧ Box wx3 (tb) 43 #[.int .i64 d0, .int .i64 d1, .int .i64 d2, .int .i64 d3, .slice wa N wk] ∧ Box wx3 (xb) 38 #[.slice (some ⟨pb, 0, none⟩) v.n v.n, .slice (some ⟨jb, 0, none⟩) v.m v.m] ∧ Box wx3 (yb) 43 #[.int .i64 fp, .int .i64 fa, .int .i64 fw, .int .i64 lg, .slice (some ⟨bq, 0, none⟩) nb nb] ∧ Box wx3 (gb) 43 #[.int .i64 d0, .int .i64 d1, .int .i64 d2, .int .i64 d3, .slice ga N gk]) := ⟨ME.out.1.trans (hbc.mono ME.out.1.size), ME.out.2.1.mono hbc (Nat.le_refl _), ME.out.2.2.1.mono hbc (Nat.le_refl _), ME.out.2.2.2.1.mono hbc (Nat.le_refl _), ME.out.2.2.2.2.1.mono hbc (Nat.le_refl _), ME.out.2.2.2.2.2.1.mono hbc (Nat.le_refl _), ME.out.2.2.2.2.2.2.mono hbc (Nat.le_refl _)⟩
    have Qc : Hid (NsAt 2 0 wx3 (some ⟨bz, 0, none⟩) nb B ∧ VOwn w.heap.size 79 2 wx3 (.slice wa N wk) N (intF (bkF fp fw nb B)) ∧ VOwn w7.heap.size 79 2 wx3 (.slice (some ⟨bq, 0, none⟩) nb nb) nb (intF B) ∧ VOwn V10.heap.size 79 2 wx3 (.slice ga N gk) N (intF (bkF fp fw nb B)) ∧ Below w7.heap.size w7 wx3) := ⟨(hBc.keep (Nat.zero_le _) (Nat.le_refl _) fun _ _ _ => rfl), ⟨QE.out.1.mono (Nat.le_refl _) hbc (Nat.le_refl _), QE.out.2.1.mono (Nat.le_refl _) hbc (Nat.le_refl _), QE.out.2.2.1.mono (Nat.le_refl _) hbc (Nat.le_refl _), QE.out.2.2.2.trans (hbc.mono QE.out.2.2.2.size)⟩⟩
    clear hbc hBc
    go_wp2_with fail
    refine hK.out _ _ ?_ (fun hHeld2 => ?_)
    · exact ⟨Mc.out.2.1.cell 0, Mc.out.2.1.cell 1, Mc.out.2.2.1.cell 0, Mc.out.2.2.1.cell 1, Mc.out.2.2.1.cell 2, Mc.out.2.2.1.cell 3, Mc.out.2.2.1.cell 4, Mc.out.2.2.2.1.cell 0, Mc.out.2.2.2.1.cell 1, Mc.out.2.2.2.1.cell 2, Mc.out.2.2.2.1.cell 3, Mc.out.2.2.2.1.cell 4, Mc.out.2.2.2.2.1.cell 0, Mc.out.2.2.2.2.1.cell 1, Mc.out.2.2.2.2.2.1.cell 0, Mc.out.2.2.2.2.2.1.cell 1, Mc.out.2.2.2.2.2.1.cell 2, Mc.out.2.2.2.2.2.1.cell 3, Mc.out.2.2.2.2.2.1.cell 4, Mc.out.2.2.2.2.2.2.cell 0, Mc.out.2.2.2.2.2.2.cell 1, Mc.out.2.2.2.2.2.2.cell 2, Mc.out.2.2.2.2.2.2.cell 3, Mc.out.2.2.2.2.2.2.cell 4⟩
    clear hK K
    refine rl 3 fun K hK => ?_
    go_simp
    refine (eqTrain18 fp fa fw lg nb B (some ⟨bq, 0, none⟩) (some ⟨bz, 0, none⟩) nb nb wx3 hnb1 (Qc.out.2.2.1.vs.le (Nat.zero_le _)) Qc.out.1).mono ?_
    rintro e wx4 ⟨rfl, hbd⟩
    have Md : Hid (Below w.heap.size w wx4 ∧ Box wx4 (w.heap.size) 25 #[.slice pa v.n pc, .slice ja v.m jc] ∧ Box wx4 (w.heap.size + 1) 30 #[.int .i64 fp, .int .i64 fa, .int .i64 fw, .int .i64 lg, .slice ba nb bk] ∧ Box wx4 (tb) 43 #[.int .i64 d0, .int .i64 d1, .int .i64 d2, .int .i64 d3, .slice wa N wk] ∧ Box wx4 (xb) 38 #[.slice (some ⟨pb, 0, none⟩) v.n v.n, .slice (some ⟨jb, 0, none⟩) v.m v.m] ∧ Box wx4 (yb) 43 #[.int .i64 fp, .int .i64 fa, .int .i64 fw, .int .i64 lg, .slice (some ⟨bq, 0, none⟩) nb nb] ∧ Box wx4 (gb) 43 #[.int .i64 d0, .int .i64 d1, .int .i64 d2, .int .i64 d3, .slice ga N gk]) := ⟨Mc.out.1.trans (hbd.mono Mc.out.1.size), Mc.out.2.1.mono hbd (Nat.le_refl _), Mc.out.2.2.1.mono hbd (Nat.le_refl _), Mc.out.2.2.2.1.mono hbd (Nat.le_refl _), Mc.out.2.2.2.2.1.mono hbd (Nat.le_refl _), Mc.out.2.2.2.2.2.1.mono hbd (Nat.le_refl _), Mc.out.2.2.2.2.2.2.mono hbd (Nat.le_refl _)⟩
    have Qd : Hid (VOwn w.heap.size 79 2 wx4 (.slice wa N wk) N (intF (bkF fp fw nb B)) ∧ VOwn w7.heap.size 79 2 wx4 (.slice (some ⟨bq, 0, none⟩) nb nb) nb (intF B) ∧ VOwn V10.heap.size 79 2 wx4 (.slice ga N gk) N (intF (bkF fp fw nb B)) ∧ Below w7.heap.size w7 wx4) := ⟨Qc.out.2.1.mono (Nat.le_refl _) hbd (Nat.le_refl _), Qc.out.2.2.1.mono (Nat.le_refl _) hbd (Nat.le_refl _), Qc.out.2.2.2.1.mono (Nat.le_refl _) hbd (Nat.le_refl _), Qc.out.2.2.2.2.trans (hbd.mono Qc.out.2.2.2.2.size)⟩
    clear hbd
    go_wp2_with fail
    refine hK.out _ _ ?_ (fun hHeld3 => ?_)
    · exact ⟨Md.out.2.1.cell 0, Md.out.2.1.cell 1, Md.out.2.2.1.cell 0, Md.out.2.2.1.cell 1, Md.out.2.2.1.cell 2, Md.out.2.2.1.cell 3, Md.out.2.2.1.cell 4, Md.out.2.2.2.1.cell 0, Md.out.2.2.2.1.cell 1, Md.out.2.2.2.1.cell 2, Md.out.2.2.2.1.cell 3, Md.out.2.2.2.1.cell 4, Md.out.2.2.2.2.1.cell 0, Md.out.2.2.2.2.1.cell 1, Md.out.2.2.2.2.2.1.cell 0, Md.out.2.2.2.2.2.1.cell 1, Md.out.2.2.2.2.2.1.cell 2, Md.out.2.2.2.2.2.1.cell 3, Md.out.2.2.2.2.2.1.cell 4, Md.out.2.2.2.2.2.2.cell 0, Md.out.2.2.2.2.2.2.cell 1, Md.out.2.2.2.2.2.2.cell 2, Md.out.2.2.2.2.2.2.cell 3, Md.out.2.2.2.2.2.2.cell 4⟩
    clear hK K
    refine tk 4 ?_
    refine wpAnyH_done (by kernel_rfl) ?_ _
    clear a0 a1 b0 b1 b2 b3 b4 c0 c1 c2 c3 c4 p0 p1 q0 q1 q2 q3 q4 s0 s1 s2 s3 s4 ME QE Mc Qc Mb Qb
    obtain ⟨bs, hsh, hsame⟩ := HP7.out.2.1.sh HNE.out
    have hro : ∃ f, wx4.rowIs pb 82 (v.n * 4) f := by
      obtain ⟨f, hr, _⟩ := HP7.out.1
      exact ⟨f, rowBel hr Qd.out.2.2.2 hr.lt⟩
    have HRO : Hid ((∃ f, wx4.rowIs pb 82 (v.n * 4) f) ∧ JsSh wx4 jb w7.heap.size v.m (fun j => (v.J j).ne) bs ∧ ∀ i j, i < v.m → j < v.m → bs j = bs i → (v.J j).ne = (v.J i).ne) := ⟨hro, hsh.below Qd.out.2.2.2, hsame⟩
    clear hro hsh hsame
    have a0 : wx4.cell? ⟨w.heap.size, 0, none⟩ = some (.slice pa v.n pc) := Md.out.2.1.cell 0
    have a1 : wx4.cell? ⟨w.heap.size, 1, none⟩ = some (.slice ja v.m jc) := Md.out.2.1.cell 1
    have b0 : wx4.cell? ⟨w.heap.size + 1, 0, none⟩ = some (.int .i64 fp) := Md.out.2.2.1.cell 0
    have b1 : wx4.cell? ⟨w.heap.size + 1, 1, none⟩ = some (.int .i64 fa) := Md.out.2.2.1.cell 1
    have b2 : wx4.cell? ⟨w.heap.size + 1, 2, none⟩ = some (.int .i64 fw) := Md.out.2.2.1.cell 2
    have b3 : wx4.cell? ⟨w.heap.size + 1, 3, none⟩ = some (.int .i64 lg) := Md.out.2.2.1.cell 3
    have b4 : wx4.cell? ⟨w.heap.size + 1, 4, none⟩ = some (.slice ba nb bk) := Md.out.2.2.1.cell 4
    have c0 : wx4.cell? ⟨tb, 0, none⟩ = some (.int .i64 d0) := Md.out.2.2.2.1.cell 0
    have c1 : wx4.cell? ⟨tb, 1, none⟩ = some (.int .i64 d1) := Md.out.2.2.2.1.cell 1
    have c2 : wx4.cell? ⟨tb, 2, none⟩ = some (.int .i64 d2) := Md.out.2.2.2.1.cell 2
    have c3 : wx4.cell? ⟨tb, 3, none⟩ = some (.int .i64 d3) := Md.out.2.2.2.1.cell 3
    have c4 : wx4.cell? ⟨tb, 4, none⟩ = some (.slice wa N wk) := Md.out.2.2.2.1.cell 4
    have p0 : wx4.cell? ⟨xb, 0, none⟩ = some (.slice (some ⟨pb, 0, none⟩) v.n v.n) := Md.out.2.2.2.2.1.cell 0
    have p1 : wx4.cell? ⟨xb, 1, none⟩ = some (.slice (some ⟨jb, 0, none⟩) v.m v.m) := Md.out.2.2.2.2.1.cell 1
    have q0 : wx4.cell? ⟨yb, 0, none⟩ = some (.int .i64 fp) := Md.out.2.2.2.2.2.1.cell 0
    have q1 : wx4.cell? ⟨yb, 1, none⟩ = some (.int .i64 fa) := Md.out.2.2.2.2.2.1.cell 1
    have q2 : wx4.cell? ⟨yb, 2, none⟩ = some (.int .i64 fw) := Md.out.2.2.2.2.2.1.cell 2
    have q3 : wx4.cell? ⟨yb, 3, none⟩ = some (.int .i64 lg) := Md.out.2.2.2.2.2.1.cell 3
    have q4 : wx4.cell? ⟨yb, 4, none⟩ = some (.slice (some ⟨bq, 0, none⟩) nb nb) := Md.out.2.2.2.2.2.1.cell 4
    have s0 : wx4.cell? ⟨gb, 0, none⟩ = some (.int .i64 d0) := Md.out.2.2.2.2.2.2.cell 0
    have s1 : wx4.cell? ⟨gb, 1, none⟩ = some (.int .i64 d1) := Md.out.2.2.2.2.2.2.cell 1
    have s2 : wx4.cell? ⟨gb, 2, none⟩ = some (.int .i64 d2) := Md.out.2.2.2.2.2.2.cell 2
    have s3 : wx4.cell? ⟨gb, 3, none⟩ = some (.int .i64 d3) := Md.out.2.2.2.2.2.2.cell 3
    have s4 : wx4.cell? ⟨gb, 4, none⟩ = some (.slice ga N gk) := Md.out.2.2.2.2.2.2.cell 4
    go_wp2_with fail
    clear a0 a1 b0 b1 b2 b3 b4 c0 c1 c2 c3 c4 p0 p1 q0 q1 q2 q3 q4 s0 s1 s2 s3 s4
    refine (markNet20x pb v.n jb v.m 1 w7.heap.size _ bs wx4 hn1 hm1 (by omega) HRO.out.1 HRO.out.2.1 HRO.out.2.2 HP7.out.2.2.1 HP7.out.2.2.2 Qd.out.2.2.2.size).mono ?_
    rintro e wm ⟨k1, rfl, hk1, hA⟩
    have HA : Hid (Amid pb w7.heap.size wx4 wm) := hA
    have Mm : Hid (Below w.heap.size w wm ∧ Box wm (w.heap.size) 25 #[.slice pa v.n pc, .slice ja v.m jc] ∧ Box wm (w.heap.size + 1) 30 #[.int .i64 fp, .int .i64 fa, .int .i64 fw, .int .i64 lg, .slice ba nb bk] ∧ Box wm (tb) 43 #[.int .i64 d0, .int .i64 d1, .int .i64 d2, .int .i64 d3, .slice wa N wk] ∧ Box wm (xb) 38 #[.slice (some ⟨pb, 0, none⟩) v.n v.n, .slice (some ⟨jb, 0, none⟩) v.m v.m] ∧ Box wm (yb) 43 #[.int .i64 fp, .int .i64 fa, .int .i64 fw, .int .i64 lg, .slice (some ⟨bq, 0, none⟩) nb nb] ∧ Box wm (gb) 43 #[.int .i64 d0, .int .i64 d1, .int .i64 d2, .int .i64 d3, .slice ga N gk]) := ⟨Md.out.1.trans (HA.out.below (by have := HLB.out.1; omega) Md.out.1.size), Md.out.2.1.keep (HA.out.block _ Md.out.2.1.lt (Or.inl (by have := HLB.out.1; omega))), Md.out.2.2.1.keep (HA.out.block _ Md.out.2.2.1.lt (Or.inl HLB.out.1)), Md.out.2.2.2.1.keep (HA.out.block _ Md.out.2.2.2.1.lt (Or.inl HLB.out.2)), Md.out.2.2.2.2.1.keep (HA.out.block _ Md.out.2.2.2.2.1.lt (Or.inr (by omega))), Md.out.2.2.2.2.2.1.keep (HA.out.block _ Md.out.2.2.2.2.2.1.lt (Or.inr HYB0.out)), Md.out.2.2.2.2.2.2.keep (HA.out.block _ Md.out.2.2.2.2.2.2.lt (Or.inr HGB0.out))⟩
    have Qm : Hid (VOwn w.heap.size 79 2 wm (.slice wa N wk) N (intF (bkF fp fw nb B)) ∧ VOwn w7.heap.size 79 2 wm (.slice (some ⟨bq, 0, none⟩) nb nb) nb (intF B) ∧ VOwn V10.heap.size 79 2 wm (.slice ga N gk) N (intF (bkF fp fw nb B))) := ⟨Qd.out.1.keep (Nat.le_refl _) (fun g hg => HA.out.block g (Qd.out.1.lt hg).2 (Or.inl (HL0.out g hg))), Qd.out.2.1.keep (Nat.le_refl _) (fun g hg => HA.out.block g (Qd.out.2.1.lt hg).2 (Or.inr (Qd.out.2.1.lt hg).1)), Qd.out.2.2.1.keep (Nat.le_refl _) (fun g hg => HA.out.block g (Qd.out.2.2.1.lt hg).2 (Or.inr (Nat.le_trans HV10.out (Qd.out.2.2.1.lt hg).1)))⟩
    clear hA HA HRO Md Qd
    have a0 : wm.cell? ⟨w.heap.size, 0, none⟩ = some (.slice pa v.n pc) := Mm.out.2.1.cell 0
    have a1 : wm.cell? ⟨w.heap.size, 1, none⟩ = some (.slice ja v.m jc) := Mm.out.2.1.cell 1
    have b0 : wm.cell? ⟨w.heap.size + 1, 0, none⟩ = some (.int .i64 fp) := Mm.out.2.2.1.cell 0
    have b1 : wm.cell? ⟨w.heap.size + 1, 1, none⟩ = some (.int .i64 fa) := Mm.out.2.2.1.cell 1
    have b2 : wm.cell? ⟨w.heap.size + 1, 2, none⟩ = some (.int .i64 fw) := Mm.out.2.2.1.cell 2
    have b3 : wm.cell? ⟨w.heap.size + 1, 3, none⟩ = some (.int .i64 lg) := Mm.out.2.2.1.cell 3
    have b4 : wm.cell? ⟨w.heap.size + 1, 4, none⟩ = some (.slice ba nb bk) := Mm.out.2.2.1.cell 4
    have c0 : wm.cell? ⟨tb, 0, none⟩ = some (.int .i64 d0) := Mm.out.2.2.2.1.cell 0
    have c1 : wm.cell? ⟨tb, 1, none⟩ = some (.int .i64 d1) := Mm.out.2.2.2.1.cell 1
    have c2 : wm.cell? ⟨tb, 2, none⟩ = some (.int .i64 d2) := Mm.out.2.2.2.1.cell 2
    have c3 : wm.cell? ⟨tb, 3, none⟩ = some (.int .i64 d3) := Mm.out.2.2.2.1.cell 3
    have c4 : wm.cell? ⟨tb, 4, none⟩ = some (.slice wa N wk) := Mm.out.2.2.2.1.cell 4
    have p0 : wm.cell? ⟨xb, 0, none⟩ = some (.slice (some ⟨pb, 0, none⟩) v.n v.n) := Mm.out.2.2.2.2.1.cell 0
    have p1 : wm.cell? ⟨xb, 1, none⟩ = some (.slice (some ⟨jb, 0, none⟩) v.m v.m) := Mm.out.2.2.2.2.1.cell 1
    have q0 : wm.cell? ⟨yb, 0, none⟩ = some (.int .i64 fp) := Mm.out.2.2.2.2.2.1.cell 0
    have q1 : wm.cell? ⟨yb, 1, none⟩ = some (.int .i64 fa) := Mm.out.2.2.2.2.2.1.cell 1
    have q2 : wm.cell? ⟨yb, 2, none⟩ = some (.int .i64 fw) := Mm.out.2.2.2.2.2.1.cell 2
    have q3 : wm.cell? ⟨yb, 3, none⟩ = some (.int .i64 lg) := Mm.out.2.2.2.2.2.1.cell 3
    have q4 : wm.cell? ⟨yb, 4, none⟩ = some (.slice (some ⟨bq, 0, none⟩) nb nb) := Mm.out.2.2.2.2.2.1.cell 4
    have s0 : wm.cell? ⟨gb, 0, none⟩ = some (.int .i64 d0) := Mm.out.2.2.2.2.2.2.cell 0
    have s1 : wm.cell? ⟨gb, 1, none⟩ = some (.int .i64 d1) := Mm.out.2.2.2.2.2.2.cell 1
    have s2 : wm.cell? ⟨gb, 2, none⟩ = some (.int .i64 d2) := Mm.out.2.2.2.2.2.2.cell 2
    have s3 : wm.cell? ⟨gb, 3, none⟩ = some (.int .i64 d3) := Mm.out.2.2.2.2.2.2.cell 3
    have s4 : wm.cell? ⟨gb, 4, none⟩ = some (.slice ga N gk) := Mm.out.2.2.2.2.2.2.cell 4
    go_wp2_with fail
    clear a0 a1 b0 b1 b2 b3 b4 c0 c1 c2 c3 c4 p0 p1 q0 q1 q2 q3 q4 s0 s1 s2 s3 s4
    obtain ⟨g1, hg1, hg2, hg3, hg4, hg5⟩ := own_mark Qm.out.2.1 (Nat.le_trans HBQ.out.1 (Nat.le_of_lt (Qm.out.2.1.lt (g := bq) rfl).2))
    have hw1 : ∀ o, 0 ≤ o → o < 0 + nb * 2 → (∃ v, wm.cell? ⟨bq, o, none⟩ = some v) ∧ wm.frozen? ⟨bq, o, none⟩ = false := fun o h1 h2 => by
      have e := hg1 (by omega)
      simp only [Option.some.injEq, Addr.mk.injEq, and_true] at e
      subst e
      exact hg4 o h1 h2
    have HNB : Hid (∀ q T xs, T ≠ 79 → Box wm q T xs → q ≠ bq) := fun q T xs hT hb e => (Qm.out.2.1.off hb hT (g := bq) rfl) e.symm
    clear hg1 hg2 hg3 hg4 hg5
    refine (markTrain15 fp fa fw lg (some ⟨bq, 0, none⟩) nb nb k1 bq 0 wm hnb1 (by omega) (fun _ => rfl) (fun _ => (Qm.out.2.1.lt (g := bq) rfl).2) hw1).mono ?_
    clear hw1
    rintro e wn ⟨he, ⟨ob1, hW1⟩, _⟩
    obtain ⟨k2, hk2⟩ : ∃ k2, k1 + nb * 2 = k2 := ⟨_, rfl⟩
    rw [hk2] at he
    subst he
    have HF1 : Hid (Fr (fun b => b = bq) wm wn) := within_fr hW1
    have Mn : Hid (Below w.heap.size w wn ∧ Box wn (w.heap.size) 25 #[.slice pa v.n pc, .slice ja v.m jc] ∧ Box wn (w.heap.size + 1) 30 #[.int .i64 fp, .int .i64 fa, .int .i64 fw, .int .i64 lg, .slice ba nb bk] ∧ Box wn (tb) 43 #[.int .i64 d0, .int .i64 d1, .int .i64 d2, .int .i64 d3, .slice wa N wk] ∧ Box wn (xb) 38 #[.slice (some ⟨pb, 0, none⟩) v.n v.n, .slice (some ⟨jb, 0, none⟩) v.m v.m] ∧ Box wn (yb) 43 #[.int .i64 fp, .int .i64 fa, .int .i64 fw, .int .i64 lg, .slice (some ⟨bq, 0, none⟩) nb nb] ∧ Box wn (gb) 43 #[.int .i64 d0, .int .i64 d1, .int .i64 d2, .int .i64 d3, .slice ga N gk]) := ⟨Mm.out.1.trans (HF1.out.below Mm.out.1.size (fun k hk e => by have h1 := HLB.out.1; have h2 := HP7.out.2.2; have h3 := HBQ.out; omega)), Mm.out.2.1.fr HF1.out (fun e => HNB.out _ _ _ (by decide) Mm.out.2.1 e), Mm.out.2.2.1.fr HF1.out (fun e => HNB.out _ _ _ (by decide) Mm.out.2.2.1 e), Mm.out.2.2.2.1.fr HF1.out (fun e => HNB.out _ _ _ (by decide) Mm.out.2.2.2.1 e), Mm.out.2.2.2.2.1.fr HF1.out (fun e => HNB.out _ _ _ (by decide) Mm.out.2.2.2.2.1 e), Mm.out.2.2.2.2.2.1.fr HF1.out (fun e => HNB.out _ _ _ (by decide) Mm.out.2.2.2.2.2.1 e), Mm.out.2.2.2.2.2.2.fr HF1.out (fun e => HNB.out _ _ _ (by decide) Mm.out.2.2.2.2.2.2 e)⟩
    have Qn : Hid (VOwn w.heap.size 79 2 wn (.slice wa N wk) N (intF (bkF fp fw nb B)) ∧ VOwn V10.heap.size 79 2 wn (.slice ga N gk) N (intF (bkF fp fw nb B))) := ⟨Qm.out.1.fr HF1.out (fun g hg e => by have h0 := HL0.out g hg; have h1 := HLB.out.1; have h2 := HP7.out.2.2; have h3 := HBQ.out; omega), Qm.out.2.2.fr HF1.out (fun g hg e => by have h0 := (Qm.out.2.2.lt hg).1; have h1 := HLB.out.1; have h2 := HP7.out.2.2; have h3 := HBQ.out; omega)⟩
    clear hW1 HF1 HNB Mm Qm hk2
    have hnn : ¬ ((k2 : Int) < 0) := by omega
    have hnd : decide ((k2 : Int) < 0) = false := by simp
    have a0 : wn.cell? ⟨w.heap.size, 0, none⟩ = some (.slice pa v.n pc) := Mn.out.2.1.cell 0
    have a1 : wn.cell? ⟨w.heap.size, 1, none⟩ = some (.slice ja v.m jc) := Mn.out.2.1.cell 1
    have b0 : wn.cell? ⟨w.heap.size + 1, 0, none⟩ = some (.int .i64 fp) := Mn.out.2.2.1.cell 0
    have b1 : wn.cell? ⟨w.heap.size + 1, 1, none⟩ = some (.int .i64 fa) := Mn.out.2.2.1.cell 1
    have b2 : wn.cell? ⟨w.heap.size + 1, 2, none⟩ = some (.int .i64 fw) := Mn.out.2.2.1.cell 2
    have b3 : wn.cell? ⟨w.heap.size + 1, 3, none⟩ = some (.int .i64 lg) := Mn.out.2.2.1.cell 3
    have b4 : wn.cell? ⟨w.heap.size + 1, 4, none⟩ = some (.slice ba nb bk) := Mn.out.2.2.1.cell 4
    have c0 : wn.cell? ⟨tb, 0, none⟩ = some (.int .i64 d0) := Mn.out.2.2.2.1.cell 0
    have c1 : wn.cell? ⟨tb, 1, none⟩ = some (.int .i64 d1) := Mn.out.2.2.2.1.cell 1
    have c2 : wn.cell? ⟨tb, 2, none⟩ = some (.int .i64 d2) := Mn.out.2.2.2.1.cell 2
    have c3 : wn.cell? ⟨tb, 3, none⟩ = some (.int .i64 d3) := Mn.out.2.2.2.1.cell 3
    have c4 : wn.cell? ⟨tb, 4, none⟩ = some (.slice wa N wk) := Mn.out.2.2.2.1.cell 4
    have p0 : wn.cell? ⟨xb, 0, none⟩ = some (.slice (some ⟨pb, 0, none⟩) v.n v.n) := Mn.out.2.2.2.2.1.cell 0
    have p1 : wn.cell? ⟨xb, 1, none⟩ = some (.slice (some ⟨jb, 0, none⟩) v.m v.m) := Mn.out.2.2.2.2.1.cell 1
    have q0 : wn.cell? ⟨yb, 0, none⟩ = some (.int .i64 fp) := Mn.out.2.2.2.2.2.1.cell 0
    have q1 : wn.cell? ⟨yb, 1, none⟩ = some (.int .i64 fa) := Mn.out.2.2.2.2.2.1.cell 1
    have q2 : wn.cell? ⟨yb, 2, none⟩ = some (.int .i64 fw) := Mn.out.2.2.2.2.2.1.cell 2
    have q3 : wn.cell? ⟨yb, 3, none⟩ = some (.int .i64 lg) := Mn.out.2.2.2.2.2.1.cell 3
    have q4 : wn.cell? ⟨yb, 4, none⟩ = some (.slice (some ⟨bq, 0, none⟩) nb nb) := Mn.out.2.2.2.2.2.1.cell 4
    have s0 : wn.cell? ⟨gb, 0, none⟩ = some (.int .i64 d0) := Mn.out.2.2.2.2.2.2.cell 0
    have s1 : wn.cell? ⟨gb, 1, none⟩ = some (.int .i64 d1) := Mn.out.2.2.2.2.2.2.cell 1
    have s2 : wn.cell? ⟨gb, 2, none⟩ = some (.int .i64 d2) := Mn.out.2.2.2.2.2.2.cell 2
    have s3 : wn.cell? ⟨gb, 3, none⟩ = some (.int .i64 d3) := Mn.out.2.2.2.2.2.2.cell 3
    have s4 : wn.cell? ⟨gb, 4, none⟩ = some (.slice ga N gk) := Mn.out.2.2.2.2.2.2.cell 4
    go_wp2_with fail
    clear a0 a1 b0 b1 b2 b3 b4 c0 c1 c2 c3 c4 p0 p1 q0 q1 q2 q3 q4 s0 s1 s2 s3 s4
    refine (eqTrain18 d0 d1 d2 d3 N (bkF fp fw nb B) ga wa gk wk wn hN (Qn.out.2.vs.le (Nat.zero_le _)) (Qn.out.1.vs.le (Nat.zero_le _))).mono ?_
    rintro e wo ⟨rfl, hb14⟩
    have Mo : Hid (Below w.heap.size w wo ∧ Box wo (w.heap.size) 25 #[.slice pa v.n pc, .slice ja v.m jc] ∧ Box wo (w.heap.size + 1) 30 #[.int .i64 fp, .int .i64 fa, .int .i64 fw, .int .i64 lg, .slice ba nb bk] ∧ Box wo (tb) 43 #[.int .i64 d0, .int .i64 d1, .int .i64 d2, .int .i64 d3, .slice wa N wk] ∧ Box wo (xb) 38 #[.slice (some ⟨pb, 0, none⟩) v.n v.n, .slice (some ⟨jb, 0, none⟩) v.m v.m] ∧ Box wo (yb) 43 #[.int .i64 fp, .int .i64 fa, .int .i64 fw, .int .i64 lg, .slice (some ⟨bq, 0, none⟩) nb nb] ∧ Box wo (gb) 43 #[.int .i64 d0, .int .i64 d1, .int .i64 d2, .int .i64 d3, .slice ga N gk]) := ⟨Mn.out.1.trans (hb14.mono Mn.out.1.size), Mn.out.2.1.mono hb14 (Nat.le_refl _), Mn.out.2.2.1.mono hb14 (Nat.le_refl _), Mn.out.2.2.2.1.mono hb14 (Nat.le_refl _), Mn.out.2.2.2.2.1.mono hb14 (Nat.le_refl _), Mn.out.2.2.2.2.2.1.mono hb14 (Nat.le_refl _), Mn.out.2.2.2.2.2.2.mono hb14 (Nat.le_refl _)⟩
    have Qo : Hid (VOwn w.heap.size 79 2 wo (.slice wa N wk) N (intF (bkF fp fw nb B)) ∧ VOwn V10.heap.size 79 2 wo (.slice ga N gk) N (intF (bkF fp fw nb B))) := ⟨Qn.out.1.mono (Nat.le_refl _) hb14 (Nat.le_refl _), Qn.out.2.mono (Nat.le_refl _) hb14 (Nat.le_refl _)⟩
    clear hb14 Mn Qn
    have a0 : wo.cell? ⟨w.heap.size, 0, none⟩ = some (.slice pa v.n pc) := Mo.out.2.1.cell 0
    have a1 : wo.cell? ⟨w.heap.size, 1, none⟩ = some (.slice ja v.m jc) := Mo.out.2.1.cell 1
    have b0 : wo.cell? ⟨w.heap.size + 1, 0, none⟩ = some (.int .i64 fp) := Mo.out.2.2.1.cell 0
    have b1 : wo.cell? ⟨w.heap.size + 1, 1, none⟩ = some (.int .i64 fa) := Mo.out.2.2.1.cell 1
    have b2 : wo.cell? ⟨w.heap.size + 1, 2, none⟩ = some (.int .i64 fw) := Mo.out.2.2.1.cell 2
    have b3 : wo.cell? ⟨w.heap.size + 1, 3, none⟩ = some (.int .i64 lg) := Mo.out.2.2.1.cell 3
    have b4 : wo.cell? ⟨w.heap.size + 1, 4, none⟩ = some (.slice ba nb bk) := Mo.out.2.2.1.cell 4
    have c0 : wo.cell? ⟨tb, 0, none⟩ = some (.int .i64 d0) := Mo.out.2.2.2.1.cell 0
    have c1 : wo.cell? ⟨tb, 1, none⟩ = some (.int .i64 d1) := Mo.out.2.2.2.1.cell 1
    have c2 : wo.cell? ⟨tb, 2, none⟩ = some (.int .i64 d2) := Mo.out.2.2.2.1.cell 2
    have c3 : wo.cell? ⟨tb, 3, none⟩ = some (.int .i64 d3) := Mo.out.2.2.2.1.cell 3
    have c4 : wo.cell? ⟨tb, 4, none⟩ = some (.slice wa N wk) := Mo.out.2.2.2.1.cell 4
    have p0 : wo.cell? ⟨xb, 0, none⟩ = some (.slice (some ⟨pb, 0, none⟩) v.n v.n) := Mo.out.2.2.2.2.1.cell 0
    have p1 : wo.cell? ⟨xb, 1, none⟩ = some (.slice (some ⟨jb, 0, none⟩) v.m v.m) := Mo.out.2.2.2.2.1.cell 1
    have q0 : wo.cell? ⟨yb, 0, none⟩ = some (.int .i64 fp) := Mo.out.2.2.2.2.2.1.cell 0
    have q1 : wo.cell? ⟨yb, 1, none⟩ = some (.int .i64 fa) := Mo.out.2.2.2.2.2.1.cell 1
    have q2 : wo.cell? ⟨yb, 2, none⟩ = some (.int .i64 fw) := Mo.out.2.2.2.2.2.1.cell 2
    have q3 : wo.cell? ⟨yb, 3, none⟩ = some (.int .i64 lg) := Mo.out.2.2.2.2.2.1.cell 3
    have q4 : wo.cell? ⟨yb, 4, none⟩ = some (.slice (some ⟨bq, 0, none⟩) nb nb) := Mo.out.2.2.2.2.2.1.cell 4
    have s0 : wo.cell? ⟨gb, 0, none⟩ = some (.int .i64 d0) := Mo.out.2.2.2.2.2.2.cell 0
    have s1 : wo.cell? ⟨gb, 1, none⟩ = some (.int .i64 d1) := Mo.out.2.2.2.2.2.2.cell 1
    have s2 : wo.cell? ⟨gb, 2, none⟩ = some (.int .i64 d2) := Mo.out.2.2.2.2.2.2.cell 2
    have s3 : wo.cell? ⟨gb, 3, none⟩ = some (.int .i64 d3) := Mo.out.2.2.2.2.2.2.cell 3
    have s4 : wo.cell? ⟨gb, 4, none⟩ = some (.slice ga N gk) := Mo.out.2.2.2.2.2.2.cell 4
    go_wp2_with fail
    clear a0 a1 b0 b1 b2 b3 b4 c0 c1 c2 c3 c4 p0 p1 q0 q1 q2 q3 q4 s0 s1 s2 s3 s4
    obtain ⟨gg, hg1, hg2, hg3, hg4, hg5⟩ := own_mark Qo.out.2 (Nat.le_trans HGB1.out (Nat.le_of_lt Mo.out.2.2.2.2.2.2.lt))
    have HNB : Hid (∀ q T xs, T ≠ 79 → Box wo q T xs → q ≠ gg) := hg5
    have HGG : Hid ((0 < N → ga = some ⟨gg, 0, none⟩) ∧ (0 < N → gg < wo.heap.size) ∧ V10.heap.size ≤ gg) := ⟨hg1, hg2, hg3⟩
    refine (markTrain15 d0 d1 d2 d3 ga N gk 1 gg 0 wo hN (by omega) hg1 hg2 hg4).mono ?_
    clear hg1 hg2 hg3 hg4 hg5
    rintro e wp ⟨he, ⟨ob2, hW2⟩, hmk⟩
    obtain ⟨mm, HMM⟩ : ∃ mm, Hid (1 + N * 2 = mm) := ⟨_, rfl⟩
    rw [HMM.out] at he
    subst he
    have HF2 : Hid (Fr (fun b => b = gg) wo wp) := within_fr hW2
    have HMK : Hid (∀ i, i < N → ∀ j, j < 2 → wp.cell? ⟨gg, 0 + i * 2 + j, none⟩ = some (.int .i64 ((1 + i * 2 + j : Nat) : Int))) := hmk
    have Mp : Hid (Below w.heap.size w wp ∧ Box wp (w.heap.size) 25 #[.slice pa v.n pc, .slice ja v.m jc] ∧ Box wp (w.heap.size + 1) 30 #[.int .i64 fp, .int .i64 fa, .int .i64 fw, .int .i64 lg, .slice ba nb bk] ∧ Box wp (tb) 43 #[.int .i64 d0, .int .i64 d1, .int .i64 d2, .int .i64 d3, .slice wa N wk] ∧ Box wp (xb) 38 #[.slice (some ⟨pb, 0, none⟩) v.n v.n, .slice (some ⟨jb, 0, none⟩) v.m v.m] ∧ Box wp (yb) 43 #[.int .i64 fp, .int .i64 fa, .int .i64 fw, .int .i64 lg, .slice (some ⟨bq, 0, none⟩) nb nb] ∧ Box wp (gb) 43 #[.int .i64 d0, .int .i64 d1, .int .i64 d2, .int .i64 d3, .slice ga N gk]) := ⟨Mo.out.1.trans (HF2.out.below Mo.out.1.size (fun k hk e => by have h0 := HGG.out.2.2; have h1 := HLB.out.1; have h2 := HP7.out.2.2; have h3 := HBQ.out; omega)), Mo.out.2.1.fr HF2.out (fun e => HNB.out _ _ _ (by decide) Mo.out.2.1 e), Mo.out.2.2.1.fr HF2.out (fun e => HNB.out _ _ _ (by decide) Mo.out.2.2.1 e), Mo.out.2.2.2.1.fr HF2.out (fun e => HNB.out _ _ _ (by decide) Mo.out.2.2.2.1 e), Mo.out.2.2.2.2.1.fr HF2.out (fun e => HNB.out _ _ _ (by decide) Mo.out.2.2.2.2.1 e), Mo.out.2.2.2.2.2.1.fr HF2.out (fun e => HNB.out _ _ _ (by decide) Mo.out.2.2.2.2.2.1 e), Mo.out.2.2.2.2.2.2.fr HF2.out (fun e => HNB.out _ _ _ (by decide) Mo.out.2.2.2.2.2.2 e)⟩
    have Qp : Hid (VOwn w.heap.size 79 2 wp (.slice wa N wk) N (intF (bkF fp fw nb B))) := Qo.out.1.fr HF2.out (fun g hg e => by have h0 := HL0.out g hg; have h9 := HGG.out.2.2; have h1 := HLB.out.1; have h2 := HP7.out.2.2; have h3 := HBQ.out; omega)
    have HSP : Hid (0 < N → gg < wp.heap.size) := fun h => Nat.lt_of_lt_of_le (HGG.out.2.1 h) HF2.out.size
    clear hW2 HF2 HNB Mo Qo hmk hnn hnd
    have a0 : wp.cell? ⟨w.heap.size, 0, none⟩ = some (.slice pa v.n pc) := Mp.out.2.1.cell 0
    have a1 : wp.cell? ⟨w.heap.size, 1, none⟩ = some (.slice ja v.m jc) := Mp.out.2.1.cell 1
    have b0 : wp.cell? ⟨w.heap.size + 1, 0, none⟩ = some (.int .i64 fp) := Mp.out.2.2.1.cell 0
    have b1 : wp.cell? ⟨w.heap.size + 1, 1, none⟩ = some (.int .i64 fa) := Mp.out.2.2.1.cell 1
    have b2 : wp.cell? ⟨w.heap.size + 1, 2, none⟩ = some (.int .i64 fw) := Mp.out.2.2.1.cell 2
    have b3 : wp.cell? ⟨w.heap.size + 1, 3, none⟩ = some (.int .i64 lg) := Mp.out.2.2.1.cell 3
    have b4 : wp.cell? ⟨w.heap.size + 1, 4, none⟩ = some (.slice ba nb bk) := Mp.out.2.2.1.cell 4
    have c0 : wp.cell? ⟨tb, 0, none⟩ = some (.int .i64 d0) := Mp.out.2.2.2.1.cell 0
    have c1 : wp.cell? ⟨tb, 1, none⟩ = some (.int .i64 d1) := Mp.out.2.2.2.1.cell 1
    have c2 : wp.cell? ⟨tb, 2, none⟩ = some (.int .i64 d2) := Mp.out.2.2.2.1.cell 2
    have c3 : wp.cell? ⟨tb, 3, none⟩ = some (.int .i64 d3) := Mp.out.2.2.2.1.cell 3
    have c4 : wp.cell? ⟨tb, 4, none⟩ = some (.slice wa N wk) := Mp.out.2.2.2.1.cell 4
    have p0 : wp.cell? ⟨xb, 0, none⟩ = some (.slice (some ⟨pb, 0, none⟩) v.n v.n) := Mp.out.2.2.2.2.1.cell 0
    have p1 : wp.cell? ⟨xb, 1, none⟩ = some (.slice (some ⟨jb, 0, none⟩) v.m v.m) := Mp.out.2.2.2.2.1.cell 1
    have q0 : wp.cell? ⟨yb, 0, none⟩ = some (.int .i64 fp) := Mp.out.2.2.2.2.2.1.cell 0
    have q1 : wp.cell? ⟨yb, 1, none⟩ = some (.int .i64 fa) := Mp.out.2.2.2.2.2.1.cell 1
    have q2 : wp.cell? ⟨yb, 2, none⟩ = some (.int .i64 fw) := Mp.out.2.2.2.2.2.1.cell 2
    have q3 : wp.cell? ⟨yb, 3, none⟩ = some (.int .i64 lg) := Mp.out.2.2.2.2.2.1.cell 3
    have q4 : wp.cell? ⟨yb, 4, none⟩ = some (.slice (some ⟨bq, 0, none⟩) nb nb) := Mp.out.2.2.2.2.2.1.cell 4
    have s0 : wp.cell? ⟨gb, 0, none⟩ = some (.int .i64 d0) := Mp.out.2.2.2.2.2.2.cell 0
    have s1 : wp.cell? ⟨gb, 1, none⟩ = some (.int .i64 d1) := Mp.out.2.2.2.2.2.2.cell 1
    have s2 : wp.cell? ⟨gb, 2, none⟩ = some (.int .i64 d2) := Mp.out.2.2.2.2.2.2.cell 2
    have s3 : wp.cell? ⟨gb, 3, none⟩ = some (.int .i64 d3) := Mp.out.2.2.2.2.2.2.cell 3
    have s4 : wp.cell? ⟨gb, 4, none⟩ = some (.slice ga N gk) := Mp.out.2.2.2.2.2.2.cell 4
    go_wp2_with fail
    clear a0 a1 b0 b1 b2 b3 b4 c0 c1 c2 c3 c4 p0 p1 q0 q1 q2 q3 q4 s0 s1 s2 s3 s4
    refine (heldTrain20 d0 d1 d2 d3 ga N gk 1 gg 0 wp hN (by omega) HGG.out.1 HSP.out HMK.out).mono ?_
    rintro e wq ⟨he, hb15⟩
    rw [HMM.out] at he
    subst he
    have Mq : Hid (Below w.heap.size w wq ∧ Box wq (w.heap.size) 25 #[.slice pa v.n pc, .slice ja v.m jc] ∧ Box wq (w.heap.size + 1) 30 #[.int .i64 fp, .int .i64 fa, .int .i64 fw, .int .i64 lg, .slice ba nb bk] ∧ Box wq (tb) 43 #[.int .i64 d0, .int .i64 d1, .int .i64 d2, .int .i64 d3, .slice wa N wk] ∧ Box wq (xb) 38 #[.slice (some ⟨pb, 0, none⟩) v.n v.n, .slice (some ⟨jb, 0, none⟩) v.m v.m] ∧ Box wq (yb) 43 #[.int .i64 fp, .int .i64 fa, .int .i64 fw, .int .i64 lg, .slice (some ⟨bq, 0, none⟩) nb nb] ∧ Box wq (gb) 43 #[.int .i64 d0, .int .i64 d1, .int .i64 d2, .int .i64 d3, .slice ga N gk]) := ⟨Mp.out.1.trans (hb15.mono Mp.out.1.size), Mp.out.2.1.mono hb15 (Nat.le_refl _), Mp.out.2.2.1.mono hb15 (Nat.le_refl _), Mp.out.2.2.2.1.mono hb15 (Nat.le_refl _), Mp.out.2.2.2.2.1.mono hb15 (Nat.le_refl _), Mp.out.2.2.2.2.2.1.mono hb15 (Nat.le_refl _), Mp.out.2.2.2.2.2.2.mono hb15 (Nat.le_refl _)⟩
    have Qq : Hid (VOwn w.heap.size 79 2 wq (.slice wa N wk) N (intF (bkF fp fw nb B))) := Qp.out.mono (Nat.le_refl _) hb15 (Nat.le_refl _)
    have HMQ : Hid ((0 < N → gg < wq.heap.size) ∧ ∀ i, i < N → ∀ j, j < 2 → wq.cell? ⟨gg, 0 + i * 2 + j, none⟩ = some (.int .i64 ((1 + i * 2 + j : Nat) : Int))) := ⟨fun h => Nat.lt_of_lt_of_le (HSP.out h) hb15.size, fun i hi j hj => cell_keep hb15 (HSP.out (by omega)) (HMK.out i hi j hj)⟩
    clear hb15 Mp Qp HMK HSP
    have hnn : ¬ ((mm : Int) < 0) := by omega
    have hnd : decide ((mm : Int) < 0) = false := by simp
    have zM : ((mm : Int) != (mm : Int)) = false := by simp
    have SQ : Hid (Below w.heap.size w wq ∧ Box wq (w.heap.size) 25 #[.slice pa v.n pc, .slice ja v.m jc] ∧ Box wq (w.heap.size + 1) 30 #[.int .i64 fp, .int .i64 fa, .int .i64 fw, .int .i64 lg, .slice ba nb bk]) := ⟨Mq.out.1, Mq.out.2.1, Mq.out.2.2.1⟩
    go_upto_region 31 with fail
    go_cut [13] from 14 (fun s6 wx => ∃ (tb : Nat) (wa : Option Addr) (wk : Nat), s6 = .pointer (some ⟨tb, 0, none⟩) ∧ Hid (Below wq.heap.size wq wx) ∧ Hid ((Box wx tb 43 #[.int .i64 d0, .int .i64 d1, .int .i64 d2, .int .i64 d3, .slice wa N wk] ∧ wq.heap.size ≤ tb) ∧ VOwn wq.heap.size 79 2 wx (.slice wa N wk) N (intF (bkF fp fw nb B))))
    case first =>
      clear Mq Qq HMQ HGG HMM HLB HL0 HP7 HBQ HV10 HGB0 HGB1 HYB0
      have MD : Hid (Below wq.heap.size wq wq.drew) := (Below.refl _ _).drew
      have a0 : wq.cell? ⟨w.heap.size, 0, none⟩ = some (.slice pa v.n pc) := SQ.out.2.1.cell 0
      have a1 : wq.cell? ⟨w.heap.size, 1, none⟩ = some (.slice ja v.m jc) := SQ.out.2.1.cell 1
      have b0 : wq.cell? ⟨w.heap.size + 1, 0, none⟩ = some (.int .i64 fp) := SQ.out.2.2.cell 0
      have b1 : wq.cell? ⟨w.heap.size + 1, 1, none⟩ = some (.int .i64 fa) := SQ.out.2.2.cell 1
      have b2 : wq.cell? ⟨w.heap.size + 1, 2, none⟩ = some (.int .i64 fw) := SQ.out.2.2.cell 2
      have b3 : wq.cell? ⟨w.heap.size + 1, 3, none⟩ = some (.int .i64 lg) := SQ.out.2.2.cell 3
      have b4 : wq.cell? ⟨w.heap.size + 1, 4, none⟩ = some (.slice ba nb bk) := SQ.out.2.2.cell 4
      go_wp2_with fail
      refine wp_region_held_drew (S := (fun wx : World => wx.cell? ⟨w.heap.size, 0, none⟩ = some (.slice pa v.n pc) ∧ wx.cell? ⟨w.heap.size, 1, none⟩ = some (.slice ja v.m jc) ∧ wx.cell? ⟨w.heap.size + 1, 0, none⟩ = some (.int .i64 fp) ∧ wx.cell? ⟨w.heap.size + 1, 1, none⟩ = some (.int .i64 fa) ∧ wx.cell? ⟨w.heap.size + 1, 2, none⟩ = some (.int .i64 fw) ∧ wx.cell? ⟨w.heap.size + 1, 3, none⟩ = some (.int .i64 lg) ∧ wx.cell? ⟨w.heap.size + 1, 4, none⟩ = some (.slice ba nb bk))) (by kernel_rfl) ?_ (fun hHeld => ?_)
      · exact ⟨a0, a1, b0, b1, b2, b3, b4⟩
      clear a0 a1 b0 b1 b2 b3 b4
      generalize wq.drew = VD at MD hHeld ⊢
      refine tk 0 ?_
      refine tk 2 ?_
      refine ready2_lit (i := 1) (j := 5) (by kernel_rfl) rfl rfl (fun K hK => ?_) (fun K hK => ?_)
      · go_simp
        refine (toNetR pa pc ja jc _ hn1 hm1 (H.out.1.mono (Nat.le_refl _) (SQ.out.1.trans (MD.out.mono SQ.out.1.size)) (Nat.le_refl _)) (H.out.2.1.mono (Nat.le_refl _) (SQ.out.1.trans (MD.out.mono SQ.out.1.size)) (Nat.le_refl _)) HNE.out).mono ?_
        rintro e wh50 ⟨pa1, ja1, rfl, hP3, hJ3, hb⟩
        have MA52 : Hid (Below wq.heap.size wq wh50) := MD.out.trans (hb.mono MD.out.size)
        have QA51 : Hid (PsAt 0 wh50 pa1 v.n v.P ∧ JsAt 0 wh50 ja1 v.m v.J) := ⟨hP3, hJ3⟩
        clear hb hP3 hJ3 MD
        go_wp2_with fail
        refine hK.out _ _ ?_ (fun hHeld => ?_)
        · exact ⟨(SQ.out.2.1.mono MA52.out (Nat.le_refl _)).cell 0, (SQ.out.2.1.mono MA52.out (Nat.le_refl _)).cell 1, (SQ.out.2.2.mono MA52.out (Nat.le_refl _)).cell 0, (SQ.out.2.2.mono MA52.out (Nat.le_refl _)).cell 1, (SQ.out.2.2.mono MA52.out (Nat.le_refl _)).cell 2, (SQ.out.2.2.mono MA52.out (Nat.le_refl _)).cell 3, (SQ.out.2.2.mono MA52.out (Nat.le_refl _)).cell 4⟩
        clear hK K
        refine ready2_lit (i := 3) (j := 5) (by kernel_rfl) rfl rfl (fun K hK => ?_) (fun K hK => ?_)
        · go_simp
          refine (toTrain16 fp fa fw lg nb B ba bk _ hnb1 (H.out.2.2.1.mono (Nat.le_refl _) (SQ.out.1.trans (MA52.out.mono SQ.out.1.size)) (Nat.le_refl _))).mono ?_
          rintro e wh53 ⟨bn, rfl, hB4, hb⟩
          have MA55 : Hid (Below wq.heap.size wq wh53) := MA52.out.trans (hb.mono MA52.out.size)
          have QA54 : Hid (PsAt 0 wh53 pa1 v.n v.P ∧ JsAt 0 wh53 ja1 v.m v.J ∧ NsAt 2 0 wh53 (some ⟨bn, 0, none⟩) nb B) := ⟨(QA51.out.1.mono (Nat.le_refl _) hb (Nat.le_refl _)), (QA51.out.2.mono (Nat.le_refl _) hb (Nat.le_refl _)), (hB4.keep (Nat.zero_le _) (Nat.le_refl _) fun _ _ _ => rfl)⟩
          clear hb hB4 MA52 QA51
          go_wp2_with fail
          refine hK.out _ _ ?_ (fun hHeld => ?_)
          · exact ⟨(SQ.out.2.1.mono MA55.out (Nat.le_refl _)).cell 0, (SQ.out.2.1.mono MA55.out (Nat.le_refl _)).cell 1, (SQ.out.2.2.mono MA55.out (Nat.le_refl _)).cell 0, (SQ.out.2.2.mono MA55.out (Nat.le_refl _)).cell 1, (SQ.out.2.2.mono MA55.out (Nat.le_refl _)).cell 2, (SQ.out.2.2.mono MA55.out (Nat.le_refl _)).cell 3, (SQ.out.2.2.mono MA55.out (Nat.le_refl _)).cell 4⟩
          clear hK K
          refine ready2_lit (i := 4) (j := 5) (by kernel_rfl) rfl rfl (fun K hK => ?_) (fun K hK => ?_)
          · go_simp
            refine (implTurned19 pa1 v.n ja1 v.m fp fa fw lg nb B bn 0 nb _ hn1 hm1 hnb1 (Nat.le_refl _) hn (Nat.le_refl _) hm QA54.out.1 QA54.out.2.1 H.out.2.2.2.1 HNE2.out QA54.out.2.2).mono ?_
            rintro e wh56 ⟨wa, wk, he, ho, hb⟩
            rw [HR.out.1, HR.out.2.1, HR.out.2.2.1, HR.out.2.2.2.1, HR.out.2.2.2.2] at he
            rw [HR.out.2.2.2.2] at ho
            subst he
            have OA57 : Hid (VOwn wq.heap.size 79 2 wh56 (.slice wa N wk) N (intF (bkF fp fw nb B))) := ho.keep MA55.out.size (fun _ _ => rfl)
            have MA58 : Hid (Below wq.heap.size wq wh56) := MA55.out.trans (hb.mono MA55.out.size)
            clear hb MA55 QA54 ho
            go_wp2_with fail
            refine hK.out _ _ ?_ (fun hHeld => ?_)
            · exact ⟨(SQ.out.2.1.mono MA58.out (Nat.le_refl _)).cell 0, (SQ.out.2.1.mono MA58.out (Nat.le_refl _)).cell 1, (SQ.out.2.2.mono MA58.out (Nat.le_refl _)).cell 0, (SQ.out.2.2.mono MA58.out (Nat.le_refl _)).cell 1, (SQ.out.2.2.mono MA58.out (Nat.le_refl _)).cell 2, (SQ.out.2.2.mono MA58.out (Nat.le_refl _)).cell 3, (SQ.out.2.2.mono MA58.out (Nat.le_refl _)).cell 4⟩
            clear hK K
            refine rl 5 fun K hK => ?_
            have MA60 : Hid (Below wq.heap.size wq (wh56.alloc (.cells #[.int .i64 0, .int .i64 0, .int .i64 0, .int .i64 0, .slice none 0 0] 43))) := MA58.out.alloc MA58.out.size _
            have TB61 : Hid (Box (wh56.alloc (.cells #[.int .i64 0, .int .i64 0, .int .i64 0, .int .i64 0, .slice none 0 0] 43)) wh56.heap.size 43 #[.int .i64 0, .int .i64 0, .int .i64 0, .int .i64 0, .slice none 0 0]) := Box.new _ _ _
            have HTL : Hid (wq.heap.size ≤ wh56.heap.size) := MA58.out.size
            have QA62 : Hid (VOwn wq.heap.size 79 2 (wh56.alloc (.cells #[.int .i64 0, .int .i64 0, .int .i64 0, .int .i64 0, .slice none 0 0] 43)) (.slice wa N wk) N (intF (bkF fp fw nb B))) := OA57.out.alloc _
            clear OA57
            clear MA58
            go_simp
            refine hK.out _ _ ?_ (fun hHeld => ?_)
            · exact ⟨(SQ.out.2.1.mono MA60.out (Nat.le_refl _)).cell 0, (SQ.out.2.1.mono MA60.out (Nat.le_refl _)).cell 1, (SQ.out.2.2.mono MA60.out (Nat.le_refl _)).cell 0, (SQ.out.2.2.mono MA60.out (Nat.le_refl _)).cell 1, (SQ.out.2.2.mono MA60.out (Nat.le_refl _)).cell 2, (SQ.out.2.2.mono MA60.out (Nat.le_refl _)).cell 3, (SQ.out.2.2.mono MA60.out (Nat.le_refl _)).cell 4⟩
            clear hK K
            clear hHeld
            generalize wh56.alloc (.cells #[.int .i64 0, .int .i64 0, .int .i64 0, .int .i64 0, .slice none 0 0] 43) = wh59 at MA60 TB61 QA62 ⊢
            generalize wh56.heap.size = tb at TB61 HTL ⊢
            have z0 : wh59.cell? ⟨tb, 0, none⟩ = some (.int .i64 0) := TB61.out.cell 0
            have z1 : wh59.cell? ⟨tb, 1, none⟩ = some (.int .i64 0) := TB61.out.cell 1
            have z2 : wh59.cell? ⟨tb, 2, none⟩ = some (.int .i64 0) := TB61.out.cell 2
            have z3 : wh59.cell? ⟨tb, 3, none⟩ = some (.int .i64 0) := TB61.out.cell 3
            have z4 : wh59.cell? ⟨tb, 4, none⟩ = some (.slice none 0 0) := TB61.out.cell 4
            have q0 := TB61.out.free 0
            have q1 := TB61.out.free 1
            have q2 := TB61.out.free 2
            have q3 := TB61.out.free 3
            have q4 := TB61.out.free 4
            have MF : Hid (Below wq.heap.size wq (((((wh59.setCell ⟨tb, 0, none⟩ (.int .i64 d0)).setCell ⟨tb, 1, none⟩ (.int .i64 d1)).setCell ⟨tb, 2, none⟩ (.int .i64 d2)).setCell ⟨tb, 3, none⟩ (.int .i64 d3)).setCell ⟨tb, 4, none⟩ (.slice wa N wk))) := (((((MA60.out.setCell HTL.out _).setCell HTL.out _).setCell HTL.out _).setCell HTL.out _).setCell HTL.out _)
            have MG : Hid ((Box (((((wh59.setCell ⟨tb, 0, none⟩ (.int .i64 d0)).setCell ⟨tb, 1, none⟩ (.int .i64 d1)).setCell ⟨tb, 2, none⟩ (.int .i64 d2)).setCell ⟨tb, 3, none⟩ (.int .i64 d3)).setCell ⟨tb, 4, none⟩ (.slice wa N wk)) tb 43 #[.int .i64 d0, .int .i64 d1, .int .i64 d2, .int .i64 d3, .slice wa N wk] ∧ wq.heap.size ≤ tb) ∧ VOwn wq.heap.size 79 2 (((((wh59.setCell ⟨tb, 0, none⟩ (.int .i64 d0)).setCell ⟨tb, 1, none⟩ (.int .i64 d1)).setCell ⟨tb, 2, none⟩ (.int .i64 d2)).setCell ⟨tb, 3, none⟩ (.int .i64 d3)).setCell ⟨tb, 4, none⟩ (.slice wa N wk)) (.slice wa N wk) N (intF (bkF fp fw nb B))) := ⟨⟨by
              have h9 := (((((TB61.out.set 0 (.int .i64 d0)).set 1 (.int .i64 d1)).set 2 (.int .i64 d2)).set 3 (.int .i64 d3)).set 4 (.slice wa N wk))
              exact h9, HTL.out⟩, (((((QA62.out.set TB61.out (by decide) 0 _).set (TB61.out.set 0 (.int .i64 d0)) (by decide) 1 _).set ((TB61.out.set 0 (.int .i64 d0)).set 1 (.int .i64 d1)) (by decide) 2 _).set (((TB61.out.set 0 (.int .i64 d0)).set 1 (.int .i64 d1)).set 2 (.int .i64 d2)) (by decide) 3 _).set ((((TB61.out.set 0 (.int .i64 d0)).set 1 (.int .i64 d1)).set 2 (.int .i64 d2)).set 3 (.int .i64 d3)) (by decide) 4 _)⟩
            refine rl 6 fun K hK => ?_
            go_simp
            refine hK.out _ _ ?_ (fun hHeld => ?_)
            · exact ⟨(SQ.out.2.1.mono MF.out (Nat.le_refl _)).cell 0, (SQ.out.2.1.mono MF.out (Nat.le_refl _)).cell 1, (SQ.out.2.2.mono MF.out (Nat.le_refl _)).cell 0, (SQ.out.2.2.mono MF.out (Nat.le_refl _)).cell 1, (SQ.out.2.2.mono MF.out (Nat.le_refl _)).cell 2, (SQ.out.2.2.mono MF.out (Nat.le_refl _)).cell 3, (SQ.out.2.2.mono MF.out (Nat.le_refl _)).cell 4⟩
            clear hK K
            refine wpAnyH_done (by kernel_rfl) ?_ _
            clear z0 z1 z2 z3 z4 q0 q1 q2 q3 q4 hHeld
            go_wp2_with fail
            go_meet
            case rel => exact ⟨tb, wa, wk, rfl, MF, MG⟩
          · have MA64 : Hid (Below wq.heap.size wq (wh53.alloc (.cells #[.int .i64 0, .int .i64 0, .int .i64 0, .int .i64 0, .slice none 0 0] 43))) := MA55.out.alloc MA55.out.size _
            have TB65 : Hid (Box (wh53.alloc (.cells #[.int .i64 0, .int .i64 0, .int .i64 0, .int .i64 0, .slice none 0 0] 43)) wh53.heap.size 43 #[.int .i64 0, .int .i64 0, .int .i64 0, .int .i64 0, .slice none 0 0]) := Box.new _ _ _
            have HTL : Hid (wq.heap.size ≤ wh53.heap.size) := MA55.out.size
            have QA66 : Hid (PsAt 0 (wh53.alloc (.cells #[.int .i64 0, .int .i64 0, .int .i64 0, .int .i64 0, .slice none 0 0] 43)) pa1 v.n v.P ∧ JsAt 0 (wh53.alloc (.cells #[.int .i64 0, .int .i64 0, .int .i64 0, .int .i64 0, .slice none 0 0] 43)) ja1 v.m v.J ∧ NsAt 2 0 (wh53.alloc (.cells #[.int .i64 0, .int .i64 0, .int .i64 0, .int .i64 0, .slice none 0 0] 43)) (some ⟨bn, 0, none⟩) nb B) := ⟨QA54.out.1.mono (Nat.le_refl _) (bel1 _ _) (Nat.le_refl _), QA54.out.2.1.mono (Nat.le_refl _) (bel1 _ _) (Nat.le_refl _), QA54.out.2.2.mono (Nat.le_refl _) (bel1 _ _) (Nat.le_refl _)⟩
            clear QA54
            clear MA55
            go_simp
            refine hK.out _ _ ?_ (fun hHeld => ?_)
            · exact ⟨(SQ.out.2.1.mono MA64.out (Nat.le_refl _)).cell 0, (SQ.out.2.1.mono MA64.out (Nat.le_refl _)).cell 1, (SQ.out.2.2.mono MA64.out (Nat.le_refl _)).cell 0, (SQ.out.2.2.mono MA64.out (Nat.le_refl _)).cell 1, (SQ.out.2.2.mono MA64.out (Nat.le_refl _)).cell 2, (SQ.out.2.2.mono MA64.out (Nat.le_refl _)).cell 3, (SQ.out.2.2.mono MA64.out (Nat.le_refl _)).cell 4⟩
            clear hK K
            clear hHeld
            generalize wh53.alloc (.cells #[.int .i64 0, .int .i64 0, .int .i64 0, .int .i64 0, .slice none 0 0] 43) = wh63 at MA64 TB65 QA66 ⊢
            generalize wh53.heap.size = tb at TB65 HTL ⊢
            refine rl 4 fun K hK => ?_
            go_simp
            refine (implTurned19 pa1 v.n ja1 v.m fp fa fw lg nb B bn 0 nb _ hn1 hm1 hnb1 (Nat.le_refl _) hn (Nat.le_refl _) hm QA66.out.1 QA66.out.2.1 H.out.2.2.2.1 HNE2.out QA66.out.2.2).mono ?_
            rintro e wh67 ⟨wa, wk, he, ho, hb⟩
            rw [HR.out.1, HR.out.2.1, HR.out.2.2.1, HR.out.2.2.2.1, HR.out.2.2.2.2] at he
            rw [HR.out.2.2.2.2] at ho
            subst he
            have OA68 : Hid (VOwn wq.heap.size 79 2 wh67 (.slice wa N wk) N (intF (bkF fp fw nb B))) := ho.keep MA64.out.size (fun _ _ => rfl)
            have MA69 : Hid (Below wq.heap.size wq wh67) := MA64.out.trans (hb.mono MA64.out.size)
            have TB70 : Hid (Box wh67 tb 43 #[.int .i64 0, .int .i64 0, .int .i64 0, .int .i64 0, .slice none 0 0]) := TB65.out.mono hb (Nat.le_refl _)
            clear TB65
            clear hb MA64 QA66 ho
            go_wp2_with fail
            refine hK.out _ _ ?_ (fun hHeld => ?_)
            · exact ⟨(SQ.out.2.1.mono MA69.out (Nat.le_refl _)).cell 0, (SQ.out.2.1.mono MA69.out (Nat.le_refl _)).cell 1, (SQ.out.2.2.mono MA69.out (Nat.le_refl _)).cell 0, (SQ.out.2.2.mono MA69.out (Nat.le_refl _)).cell 1, (SQ.out.2.2.mono MA69.out (Nat.le_refl _)).cell 2, (SQ.out.2.2.mono MA69.out (Nat.le_refl _)).cell 3, (SQ.out.2.2.mono MA69.out (Nat.le_refl _)).cell 4⟩
            clear hK K
            have z0 : wh67.cell? ⟨tb, 0, none⟩ = some (.int .i64 0) := TB70.out.cell 0
            have z1 : wh67.cell? ⟨tb, 1, none⟩ = some (.int .i64 0) := TB70.out.cell 1
            have z2 : wh67.cell? ⟨tb, 2, none⟩ = some (.int .i64 0) := TB70.out.cell 2
            have z3 : wh67.cell? ⟨tb, 3, none⟩ = some (.int .i64 0) := TB70.out.cell 3
            have z4 : wh67.cell? ⟨tb, 4, none⟩ = some (.slice none 0 0) := TB70.out.cell 4
            have q0 := TB70.out.free 0
            have q1 := TB70.out.free 1
            have q2 := TB70.out.free 2
            have q3 := TB70.out.free 3
            have q4 := TB70.out.free 4
            have MF : Hid (Below wq.heap.size wq (((((wh67.setCell ⟨tb, 0, none⟩ (.int .i64 d0)).setCell ⟨tb, 1, none⟩ (.int .i64 d1)).setCell ⟨tb, 2, none⟩ (.int .i64 d2)).setCell ⟨tb, 3, none⟩ (.int .i64 d3)).setCell ⟨tb, 4, none⟩ (.slice wa N wk))) := (((((MA69.out.setCell HTL.out _).setCell HTL.out _).setCell HTL.out _).setCell HTL.out _).setCell HTL.out _)
            have MG : Hid ((Box (((((wh67.setCell ⟨tb, 0, none⟩ (.int .i64 d0)).setCell ⟨tb, 1, none⟩ (.int .i64 d1)).setCell ⟨tb, 2, none⟩ (.int .i64 d2)).setCell ⟨tb, 3, none⟩ (.int .i64 d3)).setCell ⟨tb, 4, none⟩ (.slice wa N wk)) tb 43 #[.int .i64 d0, .int .i64 d1, .int .i64 d2, .int .i64 d3, .slice wa N wk] ∧ wq.heap.size ≤ tb) ∧ VOwn wq.heap.size 79 2 (((((wh67.setCell ⟨tb, 0, none⟩ (.int .i64 d0)).setCell ⟨tb, 1, none⟩ (.int .i64 d1)).setCell ⟨tb, 2, none⟩ (.int .i64 d2)).setCell ⟨tb, 3, none⟩ (.int .i64 d3)).setCell ⟨tb, 4, none⟩ (.slice wa N wk)) (.slice wa N wk) N (intF (bkF fp fw nb B))) := ⟨⟨by
              have h9 := (((((TB70.out.set 0 (.int .i64 d0)).set 1 (.int .i64 d1)).set 2 (.int .i64 d2)).set 3 (.int .i64 d3)).set 4 (.slice wa N wk))
              exact h9, HTL.out⟩, (((((OA68.out.set TB70.out (by decide) 0 _).set (TB70.out.set 0 (.int .i64 d0)) (by decide) 1 _).set ((TB70.out.set 0 (.int .i64 d0)).set 1 (.int .i64 d1)) (by decide) 2 _).set (((TB70.out.set 0 (.int .i64 d0)).set 1 (.int .i64 d1)).set 2 (.int .i64 d2)) (by decide) 3 _).set ((((TB70.out.set 0 (.int .i64 d0)).set 1 (.int .i64 d1)).set 2 (.int .i64 d2)).set 3 (.int .i64 d3)) (by decide) 4 _)⟩
            refine rl 6 fun K hK => ?_
            go_simp
            refine hK.out _ _ ?_ (fun hHeld => ?_)
            · exact ⟨(SQ.out.2.1.mono MF.out (Nat.le_refl _)).cell 0, (SQ.out.2.1.mono MF.out (Nat.le_refl _)).cell 1, (SQ.out.2.2.mono MF.out (Nat.le_refl _)).cell 0, (SQ.out.2.2.mono MF.out (Nat.le_refl _)).cell 1, (SQ.out.2.2.mono MF.out (Nat.le_refl _)).cell 2, (SQ.out.2.2.mono MF.out (Nat.le_refl _)).cell 3, (SQ.out.2.2.mono MF.out (Nat.le_refl _)).cell 4⟩
            clear hK K
            refine wpAnyH_done (by kernel_rfl) ?_ _
            clear z0 z1 z2 z3 z4 q0 q1 q2 q3 q4 hHeld
            go_wp2_with fail
            go_meet
            case rel => exact ⟨tb, wa, wk, rfl, MF, MG⟩
        · have MA72 : Hid (Below wq.heap.size wq (wh50.alloc (.cells #[.int .i64 0, .int .i64 0, .int .i64 0, .int .i64 0, .slice none 0 0] 43))) := MA52.out.alloc MA52.out.size _
          have TB73 : Hid (Box (wh50.alloc (.cells #[.int .i64 0, .int .i64 0, .int .i64 0, .int .i64 0, .slice none 0 0] 43)) wh50.heap.size 43 #[.int .i64 0, .int .i64 0, .int .i64 0, .int .i64 0, .slice none 0 0]) := Box.new _ _ _
          have HTL : Hid (wq.heap.size ≤ wh50.heap.size) := MA52.out.size
          have QA74 : Hid (PsAt 0 (wh50.alloc (.cells #[.int .i64 0, .int .i64 0, .int .i64 0, .int .i64 0, .slice none 0 0] 43)) pa1 v.n v.P ∧ JsAt 0 (wh50.alloc (.cells #[.int .i64 0, .int .i64 0, .int .i64 0, .int .i64 0, .slice none 0 0] 43)) ja1 v.m v.J) := ⟨QA51.out.1.mono (Nat.le_refl _) (bel1 _ _) (Nat.le_refl _), QA51.out.2.mono (Nat.le_refl _) (bel1 _ _) (Nat.le_refl _)⟩
          clear QA51
          clear MA52
          go_simp
          refine hK.out _ _ ?_ (fun hHeld => ?_)
          · exact ⟨(SQ.out.2.1.mono MA72.out (Nat.le_refl _)).cell 0, (SQ.out.2.1.mono MA72.out (Nat.le_refl _)).cell 1, (SQ.out.2.2.mono MA72.out (Nat.le_refl _)).cell 0, (SQ.out.2.2.mono MA72.out (Nat.le_refl _)).cell 1, (SQ.out.2.2.mono MA72.out (Nat.le_refl _)).cell 2, (SQ.out.2.2.mono MA72.out (Nat.le_refl _)).cell 3, (SQ.out.2.2.mono MA72.out (Nat.le_refl _)).cell 4⟩
          clear hK K
          clear hHeld
          generalize wh50.alloc (.cells #[.int .i64 0, .int .i64 0, .int .i64 0, .int .i64 0, .slice none 0 0] 43) = wh71 at MA72 TB73 QA74 ⊢
          generalize wh50.heap.size = tb at TB73 HTL ⊢
          refine rl 3 fun K hK => ?_
          go_simp
          refine (toTrain16 fp fa fw lg nb B ba bk _ hnb1 (H.out.2.2.1.mono (Nat.le_refl _) (SQ.out.1.trans (MA72.out.mono SQ.out.1.size)) (Nat.le_refl _))).mono ?_
          rintro e wh75 ⟨bn, rfl, hB4, hb⟩
          have MA77 : Hid (Below wq.heap.size wq wh75) := MA72.out.trans (hb.mono MA72.out.size)
          have TB78 : Hid (Box wh75 tb 43 #[.int .i64 0, .int .i64 0, .int .i64 0, .int .i64 0, .slice none 0 0]) := TB73.out.mono hb (Nat.le_refl _)
          clear TB73
          have QA76 : Hid (PsAt 0 wh75 pa1 v.n v.P ∧ JsAt 0 wh75 ja1 v.m v.J ∧ NsAt 2 0 wh75 (some ⟨bn, 0, none⟩) nb B) := ⟨(QA74.out.1.mono (Nat.le_refl _) hb (Nat.le_refl _)), (QA74.out.2.mono (Nat.le_refl _) hb (Nat.le_refl _)), (hB4.keep (Nat.zero_le _) (Nat.le_refl _) fun _ _ _ => rfl)⟩
          clear hb hB4 MA72 QA74
          go_wp2_with fail
          refine hK.out _ _ ?_ (fun hHeld => ?_)
          · exact ⟨(SQ.out.2.1.mono MA77.out (Nat.le_refl _)).cell 0, (SQ.out.2.1.mono MA77.out (Nat.le_refl _)).cell 1, (SQ.out.2.2.mono MA77.out (Nat.le_refl _)).cell 0, (SQ.out.2.2.mono MA77.out (Nat.le_refl _)).cell 1, (SQ.out.2.2.mono MA77.out (Nat.le_refl _)).cell 2, (SQ.out.2.2.mono MA77.out (Nat.le_refl _)).cell 3, (SQ.out.2.2.mono MA77.out (Nat.le_refl _)).cell 4⟩
          clear hK K
          refine rl 4 fun K hK => ?_
          go_simp
          refine (implTurned19 pa1 v.n ja1 v.m fp fa fw lg nb B bn 0 nb _ hn1 hm1 hnb1 (Nat.le_refl _) hn (Nat.le_refl _) hm QA76.out.1 QA76.out.2.1 H.out.2.2.2.1 HNE2.out QA76.out.2.2).mono ?_
          rintro e wh79 ⟨wa, wk, he, ho, hb⟩
          rw [HR.out.1, HR.out.2.1, HR.out.2.2.1, HR.out.2.2.2.1, HR.out.2.2.2.2] at he
          rw [HR.out.2.2.2.2] at ho
          subst he
          have OA80 : Hid (VOwn wq.heap.size 79 2 wh79 (.slice wa N wk) N (intF (bkF fp fw nb B))) := ho.keep MA77.out.size (fun _ _ => rfl)
          have MA81 : Hid (Below wq.heap.size wq wh79) := MA77.out.trans (hb.mono MA77.out.size)
          have TB82 : Hid (Box wh79 tb 43 #[.int .i64 0, .int .i64 0, .int .i64 0, .int .i64 0, .slice none 0 0]) := TB78.out.mono hb (Nat.le_refl _)
          clear TB78
          clear hb MA77 QA76 ho
          go_wp2_with fail
          refine hK.out _ _ ?_ (fun hHeld => ?_)
          · exact ⟨(SQ.out.2.1.mono MA81.out (Nat.le_refl _)).cell 0, (SQ.out.2.1.mono MA81.out (Nat.le_refl _)).cell 1, (SQ.out.2.2.mono MA81.out (Nat.le_refl _)).cell 0, (SQ.out.2.2.mono MA81.out (Nat.le_refl _)).cell 1, (SQ.out.2.2.mono MA81.out (Nat.le_refl _)).cell 2, (SQ.out.2.2.mono MA81.out (Nat.le_refl _)).cell 3, (SQ.out.2.2.mono MA81.out (Nat.le_refl _)).cell 4⟩
          clear hK K
          have z0 : wh79.cell? ⟨tb, 0, none⟩ = some (.int .i64 0) := TB82.out.cell 0
          have z1 : wh79.cell? ⟨tb, 1, none⟩ = some (.int .i64 0) := TB82.out.cell 1
          have z2 : wh79.cell? ⟨tb, 2, none⟩ = some (.int .i64 0) := TB82.out.cell 2
          have z3 : wh79.cell? ⟨tb, 3, none⟩ = some (.int .i64 0) := TB82.out.cell 3
          have z4 : wh79.cell? ⟨tb, 4, none⟩ = some (.slice none 0 0) := TB82.out.cell 4
          have q0 := TB82.out.free 0
          have q1 := TB82.out.free 1
          have q2 := TB82.out.free 2
          have q3 := TB82.out.free 3
          have q4 := TB82.out.free 4
          have MF : Hid (Below wq.heap.size wq (((((wh79.setCell ⟨tb, 0, none⟩ (.int .i64 d0)).setCell ⟨tb, 1, none⟩ (.int .i64 d1)).setCell ⟨tb, 2, none⟩ (.int .i64 d2)).setCell ⟨tb, 3, none⟩ (.int .i64 d3)).setCell ⟨tb, 4, none⟩ (.slice wa N wk))) := (((((MA81.out.setCell HTL.out _).setCell HTL.out _).setCell HTL.out _).setCell HTL.out _).setCell HTL.out _)
          have MG : Hid ((Box (((((wh79.setCell ⟨tb, 0, none⟩ (.int .i64 d0)).setCell ⟨tb, 1, none⟩ (.int .i64 d1)).setCell ⟨tb, 2, none⟩ (.int .i64 d2)).setCell ⟨tb, 3, none⟩ (.int .i64 d3)).setCell ⟨tb, 4, none⟩ (.slice wa N wk)) tb 43 #[.int .i64 d0, .int .i64 d1, .int .i64 d2, .int .i64 d3, .slice wa N wk] ∧ wq.heap.size ≤ tb) ∧ VOwn wq.heap.size 79 2 (((((wh79.setCell ⟨tb, 0, none⟩ (.int .i64 d0)).setCell ⟨tb, 1, none⟩ (.int .i64 d1)).setCell ⟨tb, 2, none⟩ (.int .i64 d2)).setCell ⟨tb, 3, none⟩ (.int .i64 d3)).setCell ⟨tb, 4, none⟩ (.slice wa N wk)) (.slice wa N wk) N (intF (bkF fp fw nb B))) := ⟨⟨by
            have h9 := (((((TB82.out.set 0 (.int .i64 d0)).set 1 (.int .i64 d1)).set 2 (.int .i64 d2)).set 3 (.int .i64 d3)).set 4 (.slice wa N wk))
            exact h9, HTL.out⟩, (((((OA80.out.set TB82.out (by decide) 0 _).set (TB82.out.set 0 (.int .i64 d0)) (by decide) 1 _).set ((TB82.out.set 0 (.int .i64 d0)).set 1 (.int .i64 d1)) (by decide) 2 _).set (((TB82.out.set 0 (.int .i64 d0)).set 1 (.int .i64 d1)).set 2 (.int .i64 d2)) (by decide) 3 _).set ((((TB82.out.set 0 (.int .i64 d0)).set 1 (.int .i64 d1)).set 2 (.int .i64 d2)).set 3 (.int .i64 d3)) (by decide) 4 _)⟩
          refine rl 6 fun K hK => ?_
          go_simp
          refine hK.out _ _ ?_ (fun hHeld => ?_)
          · exact ⟨(SQ.out.2.1.mono MF.out (Nat.le_refl _)).cell 0, (SQ.out.2.1.mono MF.out (Nat.le_refl _)).cell 1, (SQ.out.2.2.mono MF.out (Nat.le_refl _)).cell 0, (SQ.out.2.2.mono MF.out (Nat.le_refl _)).cell 1, (SQ.out.2.2.mono MF.out (Nat.le_refl _)).cell 2, (SQ.out.2.2.mono MF.out (Nat.le_refl _)).cell 3, (SQ.out.2.2.mono MF.out (Nat.le_refl _)).cell 4⟩
          clear hK K
          refine wpAnyH_done (by kernel_rfl) ?_ _
          clear z0 z1 z2 z3 z4 q0 q1 q2 q3 q4 hHeld
          go_wp2_with fail
          go_meet
          case rel => exact ⟨tb, wa, wk, rfl, MF, MG⟩
      · have MA84 : Hid (Below wq.heap.size wq (VD.alloc (.cells #[.int .i64 0, .int .i64 0, .int .i64 0, .int .i64 0, .slice none 0 0] 43))) := MD.out.alloc MD.out.size _
        have TB85 : Hid (Box (VD.alloc (.cells #[.int .i64 0, .int .i64 0, .int .i64 0, .int .i64 0, .slice none 0 0] 43)) VD.heap.size 43 #[.int .i64 0, .int .i64 0, .int .i64 0, .int .i64 0, .slice none 0 0]) := Box.new _ _ _
        have HTL : Hid (wq.heap.size ≤ VD.heap.size) := MD.out.size
        clear MD
        go_simp
        refine hK.out _ _ ?_ (fun hHeld => ?_)
        · exact ⟨(SQ.out.2.1.mono MA84.out (Nat.le_refl _)).cell 0, (SQ.out.2.1.mono MA84.out (Nat.le_refl _)).cell 1, (SQ.out.2.2.mono MA84.out (Nat.le_refl _)).cell 0, (SQ.out.2.2.mono MA84.out (Nat.le_refl _)).cell 1, (SQ.out.2.2.mono MA84.out (Nat.le_refl _)).cell 2, (SQ.out.2.2.mono MA84.out (Nat.le_refl _)).cell 3, (SQ.out.2.2.mono MA84.out (Nat.le_refl _)).cell 4⟩
        clear hK K
        clear hHeld
        generalize VD.alloc (.cells #[.int .i64 0, .int .i64 0, .int .i64 0, .int .i64 0, .slice none 0 0] 43) = wh83 at MA84 TB85  ⊢
        generalize VD.heap.size = tb at TB85 HTL ⊢
        refine rl 1 fun K hK => ?_
        go_simp
        refine (toNetR pa pc ja jc _ hn1 hm1 (H.out.1.mono (Nat.le_refl _) (SQ.out.1.trans (MA84.out.mono SQ.out.1.size)) (Nat.le_refl _)) (H.out.2.1.mono (Nat.le_refl _) (SQ.out.1.trans (MA84.out.mono SQ.out.1.size)) (Nat.le_refl _)) HNE.out).mono ?_
        rintro e wh87 ⟨pa1, ja1, rfl, hP3, hJ3, hb⟩
        have MA89 : Hid (Below wq.heap.size wq wh87) := MA84.out.trans (hb.mono MA84.out.size)
        have TB90 : Hid (Box wh87 tb 43 #[.int .i64 0, .int .i64 0, .int .i64 0, .int .i64 0, .slice none 0 0]) := TB85.out.mono hb (Nat.le_refl _)
        clear TB85
        have QA88 : Hid (PsAt 0 wh87 pa1 v.n v.P ∧ JsAt 0 wh87 ja1 v.m v.J) := ⟨hP3, hJ3⟩
        clear hb hP3 hJ3 MA84
        go_wp2_with fail
        refine hK.out _ _ ?_ (fun hHeld => ?_)
        · exact ⟨(SQ.out.2.1.mono MA89.out (Nat.le_refl _)).cell 0, (SQ.out.2.1.mono MA89.out (Nat.le_refl _)).cell 1, (SQ.out.2.2.mono MA89.out (Nat.le_refl _)).cell 0, (SQ.out.2.2.mono MA89.out (Nat.le_refl _)).cell 1, (SQ.out.2.2.mono MA89.out (Nat.le_refl _)).cell 2, (SQ.out.2.2.mono MA89.out (Nat.le_refl _)).cell 3, (SQ.out.2.2.mono MA89.out (Nat.le_refl _)).cell 4⟩
        clear hK K
        refine rl 3 fun K hK => ?_
        go_simp
        refine (toTrain16 fp fa fw lg nb B ba bk _ hnb1 (H.out.2.2.1.mono (Nat.le_refl _) (SQ.out.1.trans (MA89.out.mono SQ.out.1.size)) (Nat.le_refl _))).mono ?_
        rintro e wh91 ⟨bn, rfl, hB4, hb⟩
        have MA93 : Hid (Below wq.heap.size wq wh91) := MA89.out.trans (hb.mono MA89.out.size)
        have TB94 : Hid (Box wh91 tb 43 #[.int .i64 0, .int .i64 0, .int .i64 0, .int .i64 0, .slice none 0 0]) := TB90.out.mono hb (Nat.le_refl _)
        clear TB90
        have QA92 : Hid (PsAt 0 wh91 pa1 v.n v.P ∧ JsAt 0 wh91 ja1 v.m v.J ∧ NsAt 2 0 wh91 (some ⟨bn, 0, none⟩) nb B) := ⟨(QA88.out.1.mono (Nat.le_refl _) hb (Nat.le_refl _)), (QA88.out.2.mono (Nat.le_refl _) hb (Nat.le_refl _)), (hB4.keep (Nat.zero_le _) (Nat.le_refl _) fun _ _ _ => rfl)⟩
        clear hb hB4 MA89 QA88
        go_wp2_with fail
        refine hK.out _ _ ?_ (fun hHeld => ?_)
        · exact ⟨(SQ.out.2.1.mono MA93.out (Nat.le_refl _)).cell 0, (SQ.out.2.1.mono MA93.out (Nat.le_refl _)).cell 1, (SQ.out.2.2.mono MA93.out (Nat.le_refl _)).cell 0, (SQ.out.2.2.mono MA93.out (Nat.le_refl _)).cell 1, (SQ.out.2.2.mono MA93.out (Nat.le_refl _)).cell 2, (SQ.out.2.2.mono MA93.out (Nat.le_refl _)).cell 3, (SQ.out.2.2.mono MA93.out (Nat.le_refl _)).cell 4⟩
        clear hK K
        refine rl 4 fun K hK => ?_
        go_simp
        refine (implTurned19 pa1 v.n ja1 v.m fp fa fw lg nb B bn 0 nb _ hn1 hm1 hnb1 (Nat.le_refl _) hn (Nat.le_refl _) hm QA92.out.1 QA92.out.2.1 H.out.2.2.2.1 HNE2.out QA92.out.2.2).mono ?_
        rintro e wh95 ⟨wa, wk, he, ho, hb⟩
        rw [HR.out.1, HR.out.2.1, HR.out.2.2.1, HR.out.2.2.2.1, HR.out.2.2.2.2] at he
        rw [HR.out.2.2.2.2] at ho
        subst he
        have OA96 : Hid (VOwn wq.heap.size 79 2 wh95 (.slice wa N wk) N (intF (bkF fp fw nb B))) := ho.keep MA93.out.size (fun _ _ => rfl)
        have MA97 : Hid (Below wq.heap.size wq wh95) := MA93.out.trans (hb.mono MA93.out.size)
        have TB98 : Hid (Box wh95 tb 43 #[.int .i64 0, .int .i64 0, .int .i64 0, .int .i64 0, .slice none 0 0]) := TB94.out.mono hb (Nat.le_refl _)
        clear TB94
        clear hb MA93 QA92 ho
        go_wp2_with fail
        refine hK.out _ _ ?_ (fun hHeld => ?_)
        · exact ⟨(SQ.out.2.1.mono MA97.out (Nat.le_refl _)).cell 0, (SQ.out.2.1.mono MA97.out (Nat.le_refl _)).cell 1, (SQ.out.2.2.mono MA97.out (Nat.le_refl _)).cell 0, (SQ.out.2.2.mono MA97.out (Nat.le_refl _)).cell 1, (SQ.out.2.2.mono MA97.out (Nat.le_refl _)).cell 2, (SQ.out.2.2.mono MA97.out (Nat.le_refl _)).cell 3, (SQ.out.2.2.mono MA97.out (Nat.le_refl _)).cell 4⟩
        clear hK K
        have z0 : wh95.cell? ⟨tb, 0, none⟩ = some (.int .i64 0) := TB98.out.cell 0
        have z1 : wh95.cell? ⟨tb, 1, none⟩ = some (.int .i64 0) := TB98.out.cell 1
        have z2 : wh95.cell? ⟨tb, 2, none⟩ = some (.int .i64 0) := TB98.out.cell 2
        have z3 : wh95.cell? ⟨tb, 3, none⟩ = some (.int .i64 0) := TB98.out.cell 3
        have z4 : wh95.cell? ⟨tb, 4, none⟩ = some (.slice none 0 0) := TB98.out.cell 4
        have q0 := TB98.out.free 0
        have q1 := TB98.out.free 1
        have q2 := TB98.out.free 2
        have q3 := TB98.out.free 3
        have q4 := TB98.out.free 4
        have MF : Hid (Below wq.heap.size wq (((((wh95.setCell ⟨tb, 0, none⟩ (.int .i64 d0)).setCell ⟨tb, 1, none⟩ (.int .i64 d1)).setCell ⟨tb, 2, none⟩ (.int .i64 d2)).setCell ⟨tb, 3, none⟩ (.int .i64 d3)).setCell ⟨tb, 4, none⟩ (.slice wa N wk))) := (((((MA97.out.setCell HTL.out _).setCell HTL.out _).setCell HTL.out _).setCell HTL.out _).setCell HTL.out _)
        have MG : Hid ((Box (((((wh95.setCell ⟨tb, 0, none⟩ (.int .i64 d0)).setCell ⟨tb, 1, none⟩ (.int .i64 d1)).setCell ⟨tb, 2, none⟩ (.int .i64 d2)).setCell ⟨tb, 3, none⟩ (.int .i64 d3)).setCell ⟨tb, 4, none⟩ (.slice wa N wk)) tb 43 #[.int .i64 d0, .int .i64 d1, .int .i64 d2, .int .i64 d3, .slice wa N wk] ∧ wq.heap.size ≤ tb) ∧ VOwn wq.heap.size 79 2 (((((wh95.setCell ⟨tb, 0, none⟩ (.int .i64 d0)).setCell ⟨tb, 1, none⟩ (.int .i64 d1)).setCell ⟨tb, 2, none⟩ (.int .i64 d2)).setCell ⟨tb, 3, none⟩ (.int .i64 d3)).setCell ⟨tb, 4, none⟩ (.slice wa N wk)) (.slice wa N wk) N (intF (bkF fp fw nb B))) := ⟨⟨by
          have h9 := (((((TB98.out.set 0 (.int .i64 d0)).set 1 (.int .i64 d1)).set 2 (.int .i64 d2)).set 3 (.int .i64 d3)).set 4 (.slice wa N wk))
          exact h9, HTL.out⟩, (((((OA96.out.set TB98.out (by decide) 0 _).set (TB98.out.set 0 (.int .i64 d0)) (by decide) 1 _).set ((TB98.out.set 0 (.int .i64 d0)).set 1 (.int .i64 d1)) (by decide) 2 _).set (((TB98.out.set 0 (.int .i64 d0)).set 1 (.int .i64 d1)).set 2 (.int .i64 d2)) (by decide) 3 _).set ((((TB98.out.set 0 (.int .i64 d0)).set 1 (.int .i64 d1)).set 2 (.int .i64 d2)).set 3 (.int .i64 d3)) (by decide) 4 _)⟩
        refine rl 6 fun K hK => ?_
        go_simp
        refine hK.out _ _ ?_ (fun hHeld => ?_)
        · exact ⟨(SQ.out.2.1.mono MF.out (Nat.le_refl _)).cell 0, (SQ.out.2.1.mono MF.out (Nat.le_refl _)).cell 1, (SQ.out.2.2.mono MF.out (Nat.le_refl _)).cell 0, (SQ.out.2.2.mono MF.out (Nat.le_refl _)).cell 1, (SQ.out.2.2.mono MF.out (Nat.le_refl _)).cell 2, (SQ.out.2.2.mono MF.out (Nat.le_refl _)).cell 3, (SQ.out.2.2.mono MF.out (Nat.le_refl _)).cell 4⟩
        clear hK K
        refine wpAnyH_done (by kernel_rfl) ?_ _
        clear z0 z1 z2 z3 z4 q0 q1 q2 q3 q4 hHeld
        go_wp2_with fail
        go_meet
        case rel => exact ⟨tb, wa, wk, rfl, MF, MG⟩
    case rest =>
      obtain ⟨hx, ha, hk, rfl, MH, MHb⟩ := hcut
      generalize wc = ws at MH MHb ⊢
      have Ms : Hid (Below w.heap.size w ws ∧ Box ws (w.heap.size) 25 #[.slice pa v.n pc, .slice ja v.m jc] ∧ Box ws (w.heap.size + 1) 30 #[.int .i64 fp, .int .i64 fa, .int .i64 fw, .int .i64 lg, .slice ba nb bk] ∧ Box ws (tb) 43 #[.int .i64 d0, .int .i64 d1, .int .i64 d2, .int .i64 d3, .slice wa N wk] ∧ Box ws (xb) 38 #[.slice (some ⟨pb, 0, none⟩) v.n v.n, .slice (some ⟨jb, 0, none⟩) v.m v.m] ∧ Box ws (yb) 43 #[.int .i64 fp, .int .i64 fa, .int .i64 fw, .int .i64 lg, .slice (some ⟨bq, 0, none⟩) nb nb] ∧ Box ws (gb) 43 #[.int .i64 d0, .int .i64 d1, .int .i64 d2, .int .i64 d3, .slice ga N gk] ∧ Box ws (hx) 43 #[.int .i64 d0, .int .i64 d1, .int .i64 d2, .int .i64 d3, .slice ha N hk]) := ⟨Mq.out.1.trans (MH.out.mono Mq.out.1.size), Mq.out.2.1.mono MH.out (Nat.le_refl _), Mq.out.2.2.1.mono MH.out (Nat.le_refl _), Mq.out.2.2.2.1.mono MH.out (Nat.le_refl _), Mq.out.2.2.2.2.1.mono MH.out (Nat.le_refl _), Mq.out.2.2.2.2.2.1.mono MH.out (Nat.le_refl _), Mq.out.2.2.2.2.2.2.mono MH.out (Nat.le_refl _), MHb.out.1.1⟩
      have Qs : Hid (VOwn w.heap.size 79 2 ws (.slice wa N wk) N (intF (bkF fp fw nb B)) ∧ VOwn wq.heap.size 79 2 ws (.slice ha N hk) N (intF (bkF fp fw nb B))) := ⟨Qq.out.mono (Nat.le_refl _) MH.out (Nat.le_refl _), MHb.out.2⟩
      have HMS : Hid ((0 < N → gg < ws.heap.size) ∧ ∀ i, i < N → ∀ j, j < 2 → ws.cell? ⟨gg, 0 + i * 2 + j, none⟩ = some (.int .i64 ((1 + i * 2 + j : Nat) : Int))) := ⟨fun h => Nat.lt_of_lt_of_le (HMQ.out.1 h) MH.out.size, fun i hi j hj => cell_keep MH.out (HMQ.out.1 (by omega)) (HMQ.out.2 i hi j hj)⟩
      clear MH MHb Mq Qq HMQ SQ
      have a0 : ws.cell? ⟨w.heap.size, 0, none⟩ = some (.slice pa v.n pc) := Ms.out.2.1.cell 0
      have a1 : ws.cell? ⟨w.heap.size, 1, none⟩ = some (.slice ja v.m jc) := Ms.out.2.1.cell 1
      have b0 : ws.cell? ⟨w.heap.size + 1, 0, none⟩ = some (.int .i64 fp) := Ms.out.2.2.1.cell 0
      have b1 : ws.cell? ⟨w.heap.size + 1, 1, none⟩ = some (.int .i64 fa) := Ms.out.2.2.1.cell 1
      have b2 : ws.cell? ⟨w.heap.size + 1, 2, none⟩ = some (.int .i64 fw) := Ms.out.2.2.1.cell 2
      have b3 : ws.cell? ⟨w.heap.size + 1, 3, none⟩ = some (.int .i64 lg) := Ms.out.2.2.1.cell 3
      have b4 : ws.cell? ⟨w.heap.size + 1, 4, none⟩ = some (.slice ba nb bk) := Ms.out.2.2.1.cell 4
      have c0 : ws.cell? ⟨tb, 0, none⟩ = some (.int .i64 d0) := Ms.out.2.2.2.1.cell 0
      have c1 : ws.cell? ⟨tb, 1, none⟩ = some (.int .i64 d1) := Ms.out.2.2.2.1.cell 1
      have c2 : ws.cell? ⟨tb, 2, none⟩ = some (.int .i64 d2) := Ms.out.2.2.2.1.cell 2
      have c3 : ws.cell? ⟨tb, 3, none⟩ = some (.int .i64 d3) := Ms.out.2.2.2.1.cell 3
      have c4 : ws.cell? ⟨tb, 4, none⟩ = some (.slice wa N wk) := Ms.out.2.2.2.1.cell 4
      have p0 : ws.cell? ⟨xb, 0, none⟩ = some (.slice (some ⟨pb, 0, none⟩) v.n v.n) := Ms.out.2.2.2.2.1.cell 0
      have p1 : ws.cell? ⟨xb, 1, none⟩ = some (.slice (some ⟨jb, 0, none⟩) v.m v.m) := Ms.out.2.2.2.2.1.cell 1
      have q0 : ws.cell? ⟨yb, 0, none⟩ = some (.int .i64 fp) := Ms.out.2.2.2.2.2.1.cell 0
      have q1 : ws.cell? ⟨yb, 1, none⟩ = some (.int .i64 fa) := Ms.out.2.2.2.2.2.1.cell 1
      have q2 : ws.cell? ⟨yb, 2, none⟩ = some (.int .i64 fw) := Ms.out.2.2.2.2.2.1.cell 2
      have q3 : ws.cell? ⟨yb, 3, none⟩ = some (.int .i64 lg) := Ms.out.2.2.2.2.2.1.cell 3
      have q4 : ws.cell? ⟨yb, 4, none⟩ = some (.slice (some ⟨bq, 0, none⟩) nb nb) := Ms.out.2.2.2.2.2.1.cell 4
      have s0 : ws.cell? ⟨gb, 0, none⟩ = some (.int .i64 d0) := Ms.out.2.2.2.2.2.2.1.cell 0
      have s1 : ws.cell? ⟨gb, 1, none⟩ = some (.int .i64 d1) := Ms.out.2.2.2.2.2.2.1.cell 1
      have s2 : ws.cell? ⟨gb, 2, none⟩ = some (.int .i64 d2) := Ms.out.2.2.2.2.2.2.1.cell 2
      have s3 : ws.cell? ⟨gb, 3, none⟩ = some (.int .i64 d3) := Ms.out.2.2.2.2.2.2.1.cell 3
      have s4 : ws.cell? ⟨gb, 4, none⟩ = some (.slice ga N gk) := Ms.out.2.2.2.2.2.2.1.cell 4
      have y0 : ws.cell? ⟨hx, 0, none⟩ = some (.int .i64 d0) := Ms.out.2.2.2.2.2.2.2.cell 0
      have y1 : ws.cell? ⟨hx, 1, none⟩ = some (.int .i64 d1) := Ms.out.2.2.2.2.2.2.2.cell 1
      have y2 : ws.cell? ⟨hx, 2, none⟩ = some (.int .i64 d2) := Ms.out.2.2.2.2.2.2.2.cell 2
      have y3 : ws.cell? ⟨hx, 3, none⟩ = some (.int .i64 d3) := Ms.out.2.2.2.2.2.2.2.cell 3
      have y4 : ws.cell? ⟨hx, 4, none⟩ = some (.slice ha N hk) := Ms.out.2.2.2.2.2.2.2.cell 4
      go_wp2_with fail
      clear a0 a1 b0 b1 b2 b3 b4 c0 c1 c2 c3 c4 p0 p1 q0 q1 q2 q3 q4 s0 s1 s2 s3 s4 y0 y1 y2 y3 y4
      refine (eqTrain18 d0 d1 d2 d3 N (bkF fp fw nb B) ha wa hk wk ws hN (Qs.out.2.vs.le (Nat.zero_le _)) (Qs.out.1.vs.le (Nat.zero_le _))).mono ?_
      rintro e wt ⟨rfl, hb16⟩
      have Mt : Hid (Below w.heap.size w wt ∧ Box wt (w.heap.size) 25 #[.slice pa v.n pc, .slice ja v.m jc] ∧ Box wt (w.heap.size + 1) 30 #[.int .i64 fp, .int .i64 fa, .int .i64 fw, .int .i64 lg, .slice ba nb bk] ∧ Box wt (tb) 43 #[.int .i64 d0, .int .i64 d1, .int .i64 d2, .int .i64 d3, .slice wa N wk] ∧ Box wt (xb) 38 #[.slice (some ⟨pb, 0, none⟩) v.n v.n, .slice (some ⟨jb, 0, none⟩) v.m v.m] ∧ Box wt (yb) 43 #[.int .i64 fp, .int .i64 fa, .int .i64 fw, .int .i64 lg, .slice (some ⟨bq, 0, none⟩) nb nb] ∧ Box wt (gb) 43 #[.int .i64 d0, .int .i64 d1, .int .i64 d2, .int .i64 d3, .slice ga N gk] ∧ Box wt (hx) 43 #[.int .i64 d0, .int .i64 d1, .int .i64 d2, .int .i64 d3, .slice ha N hk]) := ⟨Ms.out.1.trans (hb16.mono Ms.out.1.size), Ms.out.2.1.mono hb16 (Nat.le_refl _), Ms.out.2.2.1.mono hb16 (Nat.le_refl _), Ms.out.2.2.2.1.mono hb16 (Nat.le_refl _), Ms.out.2.2.2.2.1.mono hb16 (Nat.le_refl _), Ms.out.2.2.2.2.2.1.mono hb16 (Nat.le_refl _), Ms.out.2.2.2.2.2.2.1.mono hb16 (Nat.le_refl _), Ms.out.2.2.2.2.2.2.2.mono hb16 (Nat.le_refl _)⟩
      have HMT : Hid ((0 < N → gg < wt.heap.size) ∧ ∀ i, i < N → ∀ j, j < 2 → wt.cell? ⟨gg, 0 + i * 2 + j, none⟩ = some (.int .i64 ((1 + i * 2 + j : Nat) : Int))) := ⟨fun h => Nat.lt_of_lt_of_le (HMS.out.1 h) hb16.size, fun i hi j hj => cell_keep hb16 (HMS.out.1 (by omega)) (HMS.out.2 i hi j hj)⟩
      clear hb16 Ms Qs HMS
      have a0 : wt.cell? ⟨w.heap.size, 0, none⟩ = some (.slice pa v.n pc) := Mt.out.2.1.cell 0
      have a1 : wt.cell? ⟨w.heap.size, 1, none⟩ = some (.slice ja v.m jc) := Mt.out.2.1.cell 1
      have b0 : wt.cell? ⟨w.heap.size + 1, 0, none⟩ = some (.int .i64 fp) := Mt.out.2.2.1.cell 0
      have b1 : wt.cell? ⟨w.heap.size + 1, 1, none⟩ = some (.int .i64 fa) := Mt.out.2.2.1.cell 1
      have b2 : wt.cell? ⟨w.heap.size + 1, 2, none⟩ = some (.int .i64 fw) := Mt.out.2.2.1.cell 2
      have b3 : wt.cell? ⟨w.heap.size + 1, 3, none⟩ = some (.int .i64 lg) := Mt.out.2.2.1.cell 3
      have b4 : wt.cell? ⟨w.heap.size + 1, 4, none⟩ = some (.slice ba nb bk) := Mt.out.2.2.1.cell 4
      have c0 : wt.cell? ⟨tb, 0, none⟩ = some (.int .i64 d0) := Mt.out.2.2.2.1.cell 0
      have c1 : wt.cell? ⟨tb, 1, none⟩ = some (.int .i64 d1) := Mt.out.2.2.2.1.cell 1
      have c2 : wt.cell? ⟨tb, 2, none⟩ = some (.int .i64 d2) := Mt.out.2.2.2.1.cell 2
      have c3 : wt.cell? ⟨tb, 3, none⟩ = some (.int .i64 d3) := Mt.out.2.2.2.1.cell 3
      have c4 : wt.cell? ⟨tb, 4, none⟩ = some (.slice wa N wk) := Mt.out.2.2.2.1.cell 4
      have p0 : wt.cell? ⟨xb, 0, none⟩ = some (.slice (some ⟨pb, 0, none⟩) v.n v.n) := Mt.out.2.2.2.2.1.cell 0
      have p1 : wt.cell? ⟨xb, 1, none⟩ = some (.slice (some ⟨jb, 0, none⟩) v.m v.m) := Mt.out.2.2.2.2.1.cell 1
      have q0 : wt.cell? ⟨yb, 0, none⟩ = some (.int .i64 fp) := Mt.out.2.2.2.2.2.1.cell 0
      have q1 : wt.cell? ⟨yb, 1, none⟩ = some (.int .i64 fa) := Mt.out.2.2.2.2.2.1.cell 1
      have q2 : wt.cell? ⟨yb, 2, none⟩ = some (.int .i64 fw) := Mt.out.2.2.2.2.2.1.cell 2
      have q3 : wt.cell? ⟨yb, 3, none⟩ = some (.int .i64 lg) := Mt.out.2.2.2.2.2.1.cell 3
      have q4 : wt.cell? ⟨yb, 4, none⟩ = some (.slice (some ⟨bq, 0, none⟩) nb nb) := Mt.out.2.2.2.2.2.1.cell 4
      have s0 : wt.cell? ⟨gb, 0, none⟩ = some (.int .i64 d0) := Mt.out.2.2.2.2.2.2.1.cell 0
      have s1 : wt.cell? ⟨gb, 1, none⟩ = some (.int .i64 d1) := Mt.out.2.2.2.2.2.2.1.cell 1
      have s2 : wt.cell? ⟨gb, 2, none⟩ = some (.int .i64 d2) := Mt.out.2.2.2.2.2.2.1.cell 2
      have s3 : wt.cell? ⟨gb, 3, none⟩ = some (.int .i64 d3) := Mt.out.2.2.2.2.2.2.1.cell 3
      have s4 : wt.cell? ⟨gb, 4, none⟩ = some (.slice ga N gk) := Mt.out.2.2.2.2.2.2.1.cell 4
      have y0 : wt.cell? ⟨hx, 0, none⟩ = some (.int .i64 d0) := Mt.out.2.2.2.2.2.2.2.cell 0
      have y1 : wt.cell? ⟨hx, 1, none⟩ = some (.int .i64 d1) := Mt.out.2.2.2.2.2.2.2.cell 1
      have y2 : wt.cell? ⟨hx, 2, none⟩ = some (.int .i64 d2) := Mt.out.2.2.2.2.2.2.2.cell 2
      have y3 : wt.cell? ⟨hx, 3, none⟩ = some (.int .i64 d3) := Mt.out.2.2.2.2.2.2.2.cell 3
      have y4 : wt.cell? ⟨hx, 4, none⟩ = some (.slice ha N hk) := Mt.out.2.2.2.2.2.2.2.cell 4
      go_wp2_with fail
      clear a0 a1 b0 b1 b2 b3 b4 c0 c1 c2 c3 c4 p0 p1 q0 q1 q2 q3 q4 s0 s1 s2 s3 s4 y0 y1 y2 y3 y4
      refine (heldTrain20 d0 d1 d2 d3 ga N gk 1 gg 0 wt hN (by omega) HGG.out.1 HMT.out.1 HMT.out.2).mono ?_
      rintro e wu ⟨he, hb17⟩
      rw [HMM.out] at he
      subst he
      have HE : Hid (Below w.heap.size w wu) := Mt.out.1.trans (hb17.mono Mt.out.1.size)
      clear hb17 Mt
      go_wp2_with fail
      go_ret
      exact ⟨rfl, HE.out⟩

end Go.Proofs.YtoennemahlakeaaGreat
