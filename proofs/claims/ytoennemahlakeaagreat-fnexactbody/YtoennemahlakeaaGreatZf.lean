import Derived.Test.YtoennemahlakeaaGreatZd
import Derived.Test.YtoennemahlakeaaGreatYb
import Derived.Test.YtoennemahlakeaaGreatTv
import Derived.Test.YtoennemahlakeaaGreatSz
import Derived.Test.YtoennemahlakeaaGreatEq
namespace Go.Proofs.YtoennemahlakeaaGreat
open Go.RowKit Go.Lib

theorem eqPart32 (a0 a1 a2 : Int) (w : World) :
    Calls Tryz.prog 32 #[.agg #[.int .i64 a0, .int .i64 a1, .int .i64 a2], .agg #[.int .i64 a0, .int .i64 a1, .int .i64 a2]] w fun e w' => e = .returned (.bool true) ∧ Below w.heap.size w w' := by
  go_enter Tryz.func32, Tryz.ntmps32
  go_wp2
  go_ret
  exact ⟨rfl, bel2 _ _ _⟩
set_option maxHeartbeats 1000000 in
theorem eqPartS11 (a a' : Option Addr) (n cap cap' : Nat) (F : Nat → Nat → Int) (w : World) (hn : n ≤ 1048576) (hE : VsAt 3 0 w a n (intF F)) (hE' : VsAt 3 0 w a' n (intF F)) :
    Calls Tryz.prog 11 #[.slice a n cap, .slice a' n cap'] w fun e w' => e = .returned (.bool true) ∧ Below w.heap.size w w' := by
  go_enter Tryz.func11, Tryz.ntmps11
  go_wp2_with fail
  go_loopw [5] (fun i wr => ∃ (k : Nat), k ≤ n ∧ i = .int .i64 k ∧ Below w.heap.size w wr) (fun i _ => n - (intOf i).toNat)
  case atStart => exact ⟨0, Nat.zero_le _, rfl, Below.refl _ _⟩
  case round =>
    obtain ⟨k, hk, rfl, hbel⟩ := hrel
    by_cases hlt : k < n
    · obtain ⟨b, off, rfl, _, hb, hc⟩ := (hE.mono (Nat.le_refl _) hbel (Nat.le_refl _)) (by omega)
      obtain ⟨b', off', rfl, _, hb', hc'⟩ := (hE'.mono (Nat.le_refl _) hbel (Nat.le_refl _)) (by omega)
      have c0 : wr.cell? ⟨b, off + k * 3, none⟩ = some (.int .i64 (F k 0)) := hc k hlt 0 (by omega)
      have c1 : wr.cell? ⟨b, off + k * 3 + 1, none⟩ = some (.int .i64 (F k 1)) := hc k hlt 1 (by omega)
      have c2 : wr.cell? ⟨b, off + k * 3 + 2, none⟩ = some (.int .i64 (F k 2)) := hc k hlt 2 (by omega)
      have d0 : wr.cell? ⟨b', off' + k * 3, none⟩ = some (.int .i64 (F k 0)) := hc' k hlt 0 (by omega)
      have d1 : wr.cell? ⟨b', off' + k * 3 + 1, none⟩ = some (.int .i64 (F k 1)) := hc' k hlt 1 (by omega)
      have d2 : wr.cell? ⟨b', off' + k * 3 + 2, none⟩ = some (.int .i64 (F k 2)) := hc' k hlt 2 (by omega)
      have hlt' : (k : Int) < (n : Int) := by omega
      have hk0 : (0 : Int) ≤ (k : Int) := by omega
      clear hc hc'
      go_wp2_with fail
      go_region_with (go_at_call 32; refine (eqPart32 (F k 0) (F k 1) (F k 2) _).mono ?_; rintro e w1 ⟨rfl, hb1⟩)
      all_goals
        go_wp2_with fail
        go_roundw
        case rel => exact ⟨k + 1, by omega, by go_num, hbel.drew.trans (hb1.mono hbel.drew.size)⟩
        case measure => simp [intOf]; omega
    · go_wp2
      go_ret
      exact ⟨rfl, hbel⟩
theorem own_markG {B' n c m : Nat} {T0 : TypeId} {w : World} {a : Option Addr} {F : Nat → Nat → Value} (h : VOwn B' T0 m w (.slice a n c) n F) (hB : B' ≤ w.heap.size) : ∃ g, (0 < n → a = some ⟨g, 0, none⟩) ∧ (0 < n → g < w.heap.size) ∧ B' ≤ g ∧ (∀ o, 0 ≤ o → o < 0 + n * m → (∃ v, w.cell? ⟨g, o, none⟩ = some v) ∧ w.frozen? ⟨g, o, none⟩ = false) ∧ ∀ q T xs, T ≠ T0 → Box w q T xs → q ≠ g := by
  rcases h with ⟨h1, h0⟩ | ⟨g, cp, cur, h1, h2, h3, h4, h5, h6, h7⟩
  · subst h0
    exact ⟨w.heap.size, fun h => absurd h (Nat.lt_irrefl _), fun h => absurd h (Nat.lt_irrefl _), hB, fun o _ ho => absurd ho (by omega), fun q T xs _ hb => by have := hb.lt; omega⟩
  · simp only [Value.slice.injEq] at h1
    obtain ⟨rfl, -, rfl⟩ := h1
    refine ⟨g, fun _ => rfl, fun _ => h3.lt, h2, fun o _ ho => ?_, fun q T xs hT hb => box_ne hb h3 hT⟩
    have hlt : o < cur.size := by rw [h6]; exact Nat.lt_of_lt_of_le (by omega) (Nat.mul_le_mul_right m h4)
    exact ⟨⟨cur[o], by rw [h3.cell]; exact Array.getElem?_eq_getElem hlt⟩, h3.free o⟩
theorem within_frG {g lo hi : Nat} {w w' : World} {o : Obj} (h : Within g lo hi (w.alloc o) w') : Fr (fun b => b = g) w w' :=
  ⟨h.os, h.tape, h.output, by rw [h.size]; simp, fun k hk hn => (h.other k hn).trans (Below.heap_alloc w o k hk)⟩
theorem within_fr0 {g lo hi : Nat} {w w' : World} (h : Within g lo hi w w') : Fr (fun b => b = g) w w' :=
  ⟨h.os, h.tape, h.output, by rw [h.size]; exact Nat.le_refl _, fun k _ hn => h.other k hn⟩
set_option maxRecDepth 100000 in
set_option maxHeartbeats 32000000 in
theorem law3z {v : Nv} (pa : Option Addr) (pc : Nat) (ja : Option Addr) (jc : Nat) (fp fa fw lg : Int) (nb : Nat) (B : Nat → Nat → Int) (ba : Option Addr) (bk : Nat) (w : World) (hn : v.n ≤ maxLen) (hm : v.m ≤ maxLen) (hl : nb ≤ maxLen) (hP : PsAt 0 w pa v.n v.P) (hJ : JsAt 0 w ja v.m v.J) (hps : ∀ i, i < v.n → (v.P i).nm.size ≤ maxLen) (hjs : ∀ i, i < v.m → (v.J i).nm.size ≤ maxLen ∧ (v.J i).ne ≤ maxLen) (hB : NsAt 2 0 w ba nb B) :
    Calls Tryz.prog 3 #[.agg #[.slice pa v.n pc, .slice ja v.m jc], .agg #[.int .i64 fp, .int .i64 fa, .int .i64 fw, .int .i64 lg, .slice ba nb bk]] w fun e w' => e = .returned (.bool true) ∧ Below w.heap.size w w' := by
  have H : Hid (PsAt 0 w pa v.n v.P ∧ JsAt 0 w ja v.m v.J ∧ NsAt 2 0 w ba nb B ∧ (∀ i, i < v.n → (v.P i).nm.size ≤ maxLen) ∧ (∀ i, i < v.m → (v.J i).nm.size ≤ maxLen ∧ (v.J i).ne ≤ maxLen)) := ⟨hP, hJ, hB, hps, hjs⟩
  have S0 : Hid (Below w.heap.size w ((w.alloc (.cells #[.slice pa v.n pc, .slice ja v.m jc] 25)).alloc (.cells #[.int .i64 fp, .int .i64 fa, .int .i64 fw, .int .i64 lg, .slice ba nb bk] 30)) ∧ Box ((w.alloc (.cells #[.slice pa v.n pc, .slice ja v.m jc] 25)).alloc (.cells #[.int .i64 fp, .int .i64 fa, .int .i64 fw, .int .i64 lg, .slice ba nb bk] 30)) (w.heap.size) 25 #[.slice pa v.n pc, .slice ja v.m jc] ∧ Box ((w.alloc (.cells #[.slice pa v.n pc, .slice ja v.m jc] 25)).alloc (.cells #[.int .i64 fp, .int .i64 fa, .int .i64 fw, .int .i64 lg, .slice ba nb bk] 30)) (w.heap.size + 1) 30 #[.int .i64 fp, .int .i64 fa, .int .i64 fw, .int .i64 lg, .slice ba nb bk]) := ⟨bel2 _ _ _, (Box.new _ _ _).alloc _, by have := Box.new (w.alloc (.cells #[.slice pa v.n pc, .slice ja v.m jc] 25)) 30 #[.int .i64 fp, .int .i64 fa, .int .i64 fw, .int .i64 lg, .slice ba nb bk]; simpa using this⟩
  clear hP hJ hB hps hjs
  go_enter Tryz.func3, Tryz.ntmps3
  go_upto_region 1 with fail
  generalize ((w.alloc (.cells #[.slice pa v.n pc, .slice ja v.m jc] 25)).alloc (.cells #[.int .i64 fp, .int .i64 fa, .int .i64 fw, .int .i64 lg, .slice ba nb bk] 30)) = V0 at S0 ⊢
  have a0 : V0.cell? ⟨w.heap.size, 0, none⟩ = some (.slice pa v.n pc) := S0.out.2.1.cell 0
  have a1 : V0.cell? ⟨w.heap.size, 1, none⟩ = some (.slice ja v.m jc) := S0.out.2.1.cell 1
  have b0 : V0.cell? ⟨w.heap.size + 1, 0, none⟩ = some (.int .i64 fp) := S0.out.2.2.cell 0
  have b1 : V0.cell? ⟨w.heap.size + 1, 1, none⟩ = some (.int .i64 fa) := S0.out.2.2.cell 1
  have b2 : V0.cell? ⟨w.heap.size + 1, 2, none⟩ = some (.int .i64 fw) := S0.out.2.2.cell 2
  have b3 : V0.cell? ⟨w.heap.size + 1, 3, none⟩ = some (.int .i64 lg) := S0.out.2.2.cell 3
  have b4 : V0.cell? ⟨w.heap.size + 1, 4, none⟩ = some (.slice ba nb bk) := S0.out.2.2.cell 4
  go_wp2_with fail
  clear a0 a1 b0 b1 b2 b3 b4
  refine (szNet5 pa v.n pc v.P ja v.m jc v.J 1048576 V0 hn hm (by omega) (by omega) (H.out.1.mono (Nat.le_refl _) S0.out.1 (Nat.le_refl _)) (H.out.2.1.mono (Nat.le_refl _) S0.out.1 (Nat.le_refl _)) H.out.2.2.2.1 H.out.2.2.2.2).mono ?_
  rintro e w1 ⟨r, rfl, hr1, hr2, hb1⟩
  have S1 : Hid (Below w.heap.size w w1 ∧ Box w1 (w.heap.size) 25 #[.slice pa v.n pc, .slice ja v.m jc] ∧ Box w1 (w.heap.size + 1) 30 #[.int .i64 fp, .int .i64 fa, .int .i64 fw, .int .i64 lg, .slice ba nb bk]) := ⟨S0.out.1.trans (hb1.mono S0.out.1.size), S0.out.2.1.mono hb1 (Nat.le_refl _), S0.out.2.2.mono hb1 (Nat.le_refl _)⟩
  clear hb1 S0
  by_cases hneg : r < 0
  · clear hr2
    go_wp2_with fail
    go_ret
    exact ⟨rfl, S1.out.1⟩
  obtain ⟨hn2, hm2, hne2⟩ := hr2 (by omega)
  have hn1 : v.n ≤ 1048576 := by omega
  have hm1 : v.m ≤ 1048576 := by omega
  have HNE : Hid (∀ i, i < v.m → (v.J i).ne ≤ 1048576) := fun i hi => by have := hne2 i hi; omega
  have HNE2 : Hid (∀ i, i < v.m → (v.J i).ne ≤ 1048576 ∧ (v.J i).nm.size ≤ maxLen) := fun i hi => ⟨HNE.out i hi, (H.out.2.2.2.2 i hi).1⟩
  clear hr2 hne2 hn2 hm2
  have a0 : w1.cell? ⟨w.heap.size, 0, none⟩ = some (.slice pa v.n pc) := S1.out.2.1.cell 0
  have a1 : w1.cell? ⟨w.heap.size, 1, none⟩ = some (.slice ja v.m jc) := S1.out.2.1.cell 1
  have b0 : w1.cell? ⟨w.heap.size + 1, 0, none⟩ = some (.int .i64 fp) := S1.out.2.2.cell 0
  have b1 : w1.cell? ⟨w.heap.size + 1, 1, none⟩ = some (.int .i64 fa) := S1.out.2.2.cell 1
  have b2 : w1.cell? ⟨w.heap.size + 1, 2, none⟩ = some (.int .i64 fw) := S1.out.2.2.cell 2
  have b3 : w1.cell? ⟨w.heap.size + 1, 3, none⟩ = some (.int .i64 lg) := S1.out.2.2.cell 3
  have b4 : w1.cell? ⟨w.heap.size + 1, 4, none⟩ = some (.slice ba nb bk) := S1.out.2.2.cell 4
  go_wp2_with fail
  clear a0 a1 b0 b1 b2 b3 b4
  refine (szTrain14 fp fa fw lg nb ba bk r w1 hl (by omega) (by omega)).mono ?_
  rintro e w2 ⟨r2, rfl, hs1, hs2, hb2⟩
  have S2 : Hid (Below w.heap.size w w2 ∧ Box w2 (w.heap.size) 25 #[.slice pa v.n pc, .slice ja v.m jc] ∧ Box w2 (w.heap.size + 1) 30 #[.int .i64 fp, .int .i64 fa, .int .i64 fw, .int .i64 lg, .slice ba nb bk]) := ⟨S1.out.1.trans (hb2.mono S1.out.1.size), S1.out.2.1.mono hb2 (Nat.le_refl _), S1.out.2.2.mono hb2 (Nat.le_refl _)⟩
  clear hb2 S1
  by_cases hneg2 : r2 < 0
  · clear hs2
    go_wp2_with fail
    go_ret
    exact ⟨rfl, S2.out.1⟩
  have hnb1 : nb ≤ 1048576 := by have := hs2 (by omega); omega
  have hnb2 : nb + 1 ≤ 1048576 ∨ nb = 1048576 := by omega
  clear hs2 hs1
  obtain ⟨N, HR⟩ : ∃ N, Hid (bdN v fp fa fw lg nb B = N) := ⟨_, rfl⟩
  have hN : N ≤ 1048576 := by
    have h1 := HR.out
    unfold bdN at h1
    split at h1
    · rename_i c
      have := (tr_ok c).2.nb1
      omega
    · omega
  have sD : Hid (Below w.heap.size w w2.drew ∧ Box w2.drew (w.heap.size) 25 #[.slice pa v.n pc, .slice ja v.m jc] ∧ Box w2.drew (w.heap.size + 1) 30 #[.int .i64 fp, .int .i64 fa, .int .i64 fw, .int .i64 lg, .slice ba nb bk]) := ⟨S2.out.1.drew, S2.out.2.1.drew, S2.out.2.2.drew⟩
  have a0 : w2.cell? ⟨w.heap.size, 0, none⟩ = some (.slice pa v.n pc) := S2.out.2.1.cell 0
  have a1 : w2.cell? ⟨w.heap.size, 1, none⟩ = some (.slice ja v.m jc) := S2.out.2.1.cell 1
  have b0 : w2.cell? ⟨w.heap.size + 1, 0, none⟩ = some (.int .i64 fp) := S2.out.2.2.cell 0
  have b1 : w2.cell? ⟨w.heap.size + 1, 1, none⟩ = some (.int .i64 fa) := S2.out.2.2.cell 1
  have b2 : w2.cell? ⟨w.heap.size + 1, 2, none⟩ = some (.int .i64 fw) := S2.out.2.2.cell 2
  have b3 : w2.cell? ⟨w.heap.size + 1, 3, none⟩ = some (.int .i64 lg) := S2.out.2.2.cell 3
  have b4 : w2.cell? ⟨w.heap.size + 1, 4, none⟩ = some (.slice ba nb bk) := S2.out.2.2.cell 4
  go_wp2_with fail
  refine wp_region_held_drew (S := (fun wx : World => wx.cell? ⟨w.heap.size, 0, none⟩ = some (.slice pa v.n pc) ∧ wx.cell? ⟨w.heap.size, 1, none⟩ = some (.slice ja v.m jc) ∧ wx.cell? ⟨w.heap.size + 1, 0, none⟩ = some (.int .i64 fp) ∧ wx.cell? ⟨w.heap.size + 1, 1, none⟩ = some (.int .i64 fa) ∧ wx.cell? ⟨w.heap.size + 1, 2, none⟩ = some (.int .i64 fw) ∧ wx.cell? ⟨w.heap.size + 1, 3, none⟩ = some (.int .i64 lg) ∧ wx.cell? ⟨w.heap.size + 1, 4, none⟩ = some (.slice ba nb bk))) (by kernel_rfl) ?_ (fun hHeld => ?_)
  · exact ⟨a0, a1, b0, b1, b2, b3, b4⟩
  refine tk 0 ?_
  refine tk 2 ?_
  refine rl 1 fun K hK => ?_
  go_simp
  refine (toNetR pa pc ja jc _ hn1 hm1 (H.out.1.mono (Nat.le_refl _) sD.out.1 (Nat.le_refl _)) (H.out.2.1.mono (Nat.le_refl _) sD.out.1 (Nat.le_refl _)) HNE.out).mono ?_
  rintro e s1 ⟨pa1, ja1, rfl, hP3, hJ3, hb⟩
  have sM1 : Hid (Below w.heap.size w s1 ∧ Box s1 (w.heap.size) 25 #[.slice pa v.n pc, .slice ja v.m jc] ∧ Box s1 (w.heap.size + 1) 30 #[.int .i64 fp, .int .i64 fa, .int .i64 fw, .int .i64 lg, .slice ba nb bk]) := ⟨sD.out.1.trans (hb.mono sD.out.1.size), sD.out.2.1.mono hb (Nat.le_refl _), sD.out.2.2.mono hb (Nat.le_refl _)⟩
  have sR1 : Hid (PsAt 0 s1 pa1 v.n v.P ∧ JsAt 0 s1 ja1 v.m v.J) := ⟨hP3, hJ3⟩
  clear hb hP3 hJ3
  go_wp2_with fail
  refine hK.out _ _ ?_ (fun hHeld1 => ?_)
  · exact ⟨sM1.out.2.1.cell 0, sM1.out.2.1.cell 1, sM1.out.2.2.cell 0, sM1.out.2.2.cell 1, sM1.out.2.2.cell 2, sM1.out.2.2.cell 3, sM1.out.2.2.cell 4⟩
  clear hK K
  refine rl 3 fun K hK => ?_
  go_simp
  refine (toTrain16 fp fa fw lg nb B ba bk s1 hnb1 (H.out.2.2.1.mono (Nat.le_refl _) sM1.out.1 (Nat.le_refl _))).mono ?_
  rintro e s2 ⟨bn, rfl, hB4, hb⟩
  have sM2 : Hid (Below w.heap.size w s2 ∧ Box s2 (w.heap.size) 25 #[.slice pa v.n pc, .slice ja v.m jc] ∧ Box s2 (w.heap.size + 1) 30 #[.int .i64 fp, .int .i64 fa, .int .i64 fw, .int .i64 lg, .slice ba nb bk]) := ⟨sM1.out.1.trans (hb.mono sM1.out.1.size), sM1.out.2.1.mono hb (Nat.le_refl _), sM1.out.2.2.mono hb (Nat.le_refl _)⟩
  have sR2 : Hid (PsAt 0 s2 pa1 v.n v.P ∧ JsAt 0 s2 ja1 v.m v.J ∧ NsAt 2 0 s2 (some ⟨bn, 0, none⟩) nb B) := ⟨(sR1.out.1.mono (Nat.le_refl _) hb (Nat.le_refl _)), (sR1.out.2.mono (Nat.le_refl _) hb (Nat.le_refl _)), (hB4.keep (Nat.zero_le _) (Nat.le_refl _) fun _ _ _ => rfl)⟩
  clear hb hB4
  go_wp2_with fail
  refine hK.out _ _ ?_ (fun hHeld3 => ?_)
  · exact ⟨sM2.out.2.1.cell 0, sM2.out.2.1.cell 1, sM2.out.2.2.cell 0, sM2.out.2.2.cell 1, sM2.out.2.2.cell 2, sM2.out.2.2.cell 3, sM2.out.2.2.cell 4⟩
  clear hK K
  refine rl 4 fun K hK => ?_
  go_simp
  refine (specBody7 pa1 v.n ja1 v.m fp fa fw lg nb B (some ⟨bn, 0, none⟩) nb s2 hn1 hm1 hnb1 sR2.out.1 sR2.out.2.1 H.out.2.2.2.1 HNE2.out sR2.out.2.2).mono ?_
  rintro e s3 ⟨sa, sk, he, ho, hb⟩
  rw [HR.out] at he ho
  subst he
  have sO : Hid (VOwn s2.heap.size 69 3 s3 (.slice sa N sk) N (intF (prF v (stG v fp fa fw lg nb B)))) := ho
  have sM3 : Hid (Below w.heap.size w s3 ∧ Box s3 (w.heap.size) 25 #[.slice pa v.n pc, .slice ja v.m jc] ∧ Box s3 (w.heap.size + 1) 30 #[.int .i64 fp, .int .i64 fa, .int .i64 fw, .int .i64 lg, .slice ba nb bk]) := ⟨sM2.out.1.trans (hb.mono sM2.out.1.size), sM2.out.2.1.mono hb (Nat.le_refl _), sM2.out.2.2.mono hb (Nat.le_refl _)⟩
  have sHS : Hid (w.heap.size ≤ s2.heap.size) := sM2.out.1.size
  clear hb ho
  go_wp2_with fail
  refine hK.out _ _ ?_ (fun hHeld4 => ?_)
  · exact ⟨sM3.out.2.1.cell 0, sM3.out.2.1.cell 1, sM3.out.2.2.cell 0, sM3.out.2.2.cell 1, sM3.out.2.2.cell 2, sM3.out.2.2.cell 3, sM3.out.2.2.cell 4⟩
  clear hK K
  refine tk 5 ?_
  refine wpAnyH_done (by kernel_rfl) ?_ _
  clear a0 a1 b0 b1 b2 b3 b4 sD sM1 sM2 sR1 sR2 S2
  have Q6 : Hid (VOwn w.heap.size 69 3 s3 (.slice sa N sk) N (intF (prF v (stG v fp fa fw lg nb B)))) := sO.out.keep sHS.out (fun _ _ => rfl)
  clear sO sHS
  generalize sa = wa at Q6 ⊢
  generalize sk = wk at Q6 ⊢
  have a0 : s3.cell? ⟨w.heap.size, 0, none⟩ = some (.slice pa v.n pc) := sM3.out.2.1.cell 0
  have a1 : s3.cell? ⟨w.heap.size, 1, none⟩ = some (.slice ja v.m jc) := sM3.out.2.1.cell 1
  have b0 : s3.cell? ⟨w.heap.size + 1, 0, none⟩ = some (.int .i64 fp) := sM3.out.2.2.cell 0
  have b1 : s3.cell? ⟨w.heap.size + 1, 1, none⟩ = some (.int .i64 fa) := sM3.out.2.2.cell 1
  have b2 : s3.cell? ⟨w.heap.size + 1, 2, none⟩ = some (.int .i64 fw) := sM3.out.2.2.cell 2
  have b3 : s3.cell? ⟨w.heap.size + 1, 3, none⟩ = some (.int .i64 lg) := sM3.out.2.2.cell 3
  have b4 : s3.cell? ⟨w.heap.size + 1, 4, none⟩ = some (.slice ba nb bk) := sM3.out.2.2.cell 4
  go_wp2_with fail
  clear a0 a1 b0 b1 b2 b3 b4
  refine (toNet7x pa v.n pc v.P ja v.m jc v.J s3 hn1 hm1 (H.out.1.mono (Nat.le_refl _) sM3.out.1 (Nat.le_refl _)) (H.out.2.1.mono (Nat.le_refl _) sM3.out.1 (Nat.le_refl _)) HNE.out).mono ?_
  rintro e w7 ⟨pb, jb, hpb, hjb, hpj, rfl, hP7, hJ7, hb7⟩
  have HP7 : Hid (PsTo w7 pb v.n v.n v.P ∧ JsTo w7 jb v.m v.m v.J ∧ pb < jb ∧ jb < w7.heap.size) := ⟨hP7, hJ7, hpj, by obtain ⟨f, hr, _⟩ := hJ7; exact hr.lt⟩
  have HL0 : Hid (∀ g, (Value.slice wa N wk).ownBlock = some g → g < pb) := fun g hg => by have := (Q6.out.lt hg).2; omega
  have HLB : Hid (w.heap.size + 1 < pb) := by have := sM3.out.2.2.lt; show _ < _; omega
  have M7 : Hid (Below w.heap.size w w7 ∧ Box w7 (w.heap.size) 25 #[.slice pa v.n pc, .slice ja v.m jc] ∧ Box w7 (w.heap.size + 1) 30 #[.int .i64 fp, .int .i64 fa, .int .i64 fw, .int .i64 lg, .slice ba nb bk]) := ⟨sM3.out.1.trans (hb7.mono sM3.out.1.size), sM3.out.2.1.mono hb7 (Nat.le_refl _), sM3.out.2.2.mono hb7 (Nat.le_refl _)⟩
  have Q7 : Hid (VOwn w.heap.size 69 3 w7 (.slice wa N wk) N (intF (prF v (stG v fp fa fw lg nb B)))) := Q6.out.mono (Nat.le_refl _) hb7 (Nat.le_refl _)
  clear hb7 hP7 hJ7 hpb hjb hpj sM3 Q6
  have M8 : Hid (Below w.heap.size w (w7.alloc (.cells #[.slice (some ⟨pb, 0, none⟩) v.n v.n, .slice (some ⟨jb, 0, none⟩) v.m v.m] 38)) ∧ Box (w7.alloc (.cells #[.slice (some ⟨pb, 0, none⟩) v.n v.n, .slice (some ⟨jb, 0, none⟩) v.m v.m] 38)) (w.heap.size) 25 #[.slice pa v.n pc, .slice ja v.m jc] ∧ Box (w7.alloc (.cells #[.slice (some ⟨pb, 0, none⟩) v.n v.n, .slice (some ⟨jb, 0, none⟩) v.m v.m] 38)) (w.heap.size + 1) 30 #[.int .i64 fp, .int .i64 fa, .int .i64 fw, .int .i64 lg, .slice ba nb bk] ∧ Box (w7.alloc (.cells #[.slice (some ⟨pb, 0, none⟩) v.n v.n, .slice (some ⟨jb, 0, none⟩) v.m v.m] 38)) w7.heap.size 38 #[.slice (some ⟨pb, 0, none⟩) v.n v.n, .slice (some ⟨jb, 0, none⟩) v.m v.m]) := ⟨M7.out.1.alloc M7.out.1.size _, M7.out.2.1.alloc _, M7.out.2.2.alloc _, Box.new _ _ _⟩
  have Q8 : Hid (VOwn w.heap.size 69 3 (w7.alloc (.cells #[.slice (some ⟨pb, 0, none⟩) v.n v.n, .slice (some ⟨jb, 0, none⟩) v.m v.m] 38)) (.slice wa N wk) N (intF (prF v (stG v fp fa fw lg nb B))) ∧ Below w7.heap.size w7 (w7.alloc (.cells #[.slice (some ⟨pb, 0, none⟩) v.n v.n, .slice (some ⟨jb, 0, none⟩) v.m v.m] 38))) := ⟨Q7.out.alloc _, bel1 _ _⟩
  clear M7 Q7
  go_upto_region 10 with fail
  generalize w7.alloc (.cells #[.slice (some ⟨pb, 0, none⟩) v.n v.n, .slice (some ⟨jb, 0, none⟩) v.m v.m] 38) = V8 at M8 Q8 ⊢
  generalize hxb : w7.heap.size = xb at M8 ⊢
  have a0 : V8.cell? ⟨w.heap.size, 0, none⟩ = some (.slice pa v.n pc) := M8.out.2.1.cell 0
  have a1 : V8.cell? ⟨w.heap.size, 1, none⟩ = some (.slice ja v.m jc) := M8.out.2.1.cell 1
  have b0 : V8.cell? ⟨w.heap.size + 1, 0, none⟩ = some (.int .i64 fp) := M8.out.2.2.1.cell 0
  have b1 : V8.cell? ⟨w.heap.size + 1, 1, none⟩ = some (.int .i64 fa) := M8.out.2.2.1.cell 1
  have b2 : V8.cell? ⟨w.heap.size + 1, 2, none⟩ = some (.int .i64 fw) := M8.out.2.2.1.cell 2
  have b3 : V8.cell? ⟨w.heap.size + 1, 3, none⟩ = some (.int .i64 lg) := M8.out.2.2.1.cell 3
  have b4 : V8.cell? ⟨w.heap.size + 1, 4, none⟩ = some (.slice ba nb bk) := M8.out.2.2.1.cell 4
  have p0 : V8.cell? ⟨xb, 0, none⟩ = some (.slice (some ⟨pb, 0, none⟩) v.n v.n) := M8.out.2.2.2.cell 0
  have p1 : V8.cell? ⟨xb, 1, none⟩ = some (.slice (some ⟨jb, 0, none⟩) v.m v.m) := M8.out.2.2.2.cell 1
  go_wp2_with fail
  clear a0 a1 b0 b1 b2 b3 b4 p0 p1
  refine (toTrain9x fp fa fw lg nb B ba bk V8 hnb1 (H.out.2.2.1.mono (Nat.le_refl _) M8.out.1 (Nat.le_refl _))).mono ?_
  rintro e w9 ⟨bq, rfl, hO9, hb9⟩
  have M9 : Hid (Below w.heap.size w w9 ∧ Box w9 (w.heap.size) 25 #[.slice pa v.n pc, .slice ja v.m jc] ∧ Box w9 (w.heap.size + 1) 30 #[.int .i64 fp, .int .i64 fa, .int .i64 fw, .int .i64 lg, .slice ba nb bk] ∧ Box w9 (xb) 38 #[.slice (some ⟨pb, 0, none⟩) v.n v.n, .slice (some ⟨jb, 0, none⟩) v.m v.m]) := ⟨M8.out.1.trans (hb9.mono M8.out.1.size), M8.out.2.1.mono hb9 (Nat.le_refl _), M8.out.2.2.1.mono hb9 (Nat.le_refl _), M8.out.2.2.2.mono hb9 (Nat.le_refl _)⟩
  have Q9 : Hid (VOwn w.heap.size 69 3 w9 (.slice wa N wk) N (intF (prF v (stG v fp fa fw lg nb B))) ∧ VOwn w7.heap.size 79 2 w9 (.slice (some ⟨bq, 0, none⟩) nb nb) nb (intF B) ∧ Below w7.heap.size w7 w9) := ⟨Q8.out.1.mono (Nat.le_refl _) hb9 (Nat.le_refl _), hO9.keep Q8.out.2.size (fun _ _ => rfl), Q8.out.2.trans (hb9.mono Q8.out.2.size)⟩
  clear hb9 hO9 M8 Q8
  have M10 : Hid (Below w.heap.size w (w9.alloc (.cells #[.int .i64 fp, .int .i64 fa, .int .i64 fw, .int .i64 lg, .slice (some ⟨bq, 0, none⟩) nb nb] 43)) ∧ Box (w9.alloc (.cells #[.int .i64 fp, .int .i64 fa, .int .i64 fw, .int .i64 lg, .slice (some ⟨bq, 0, none⟩) nb nb] 43)) (w.heap.size) 25 #[.slice pa v.n pc, .slice ja v.m jc] ∧ Box (w9.alloc (.cells #[.int .i64 fp, .int .i64 fa, .int .i64 fw, .int .i64 lg, .slice (some ⟨bq, 0, none⟩) nb nb] 43)) (w.heap.size + 1) 30 #[.int .i64 fp, .int .i64 fa, .int .i64 fw, .int .i64 lg, .slice ba nb bk] ∧ Box (w9.alloc (.cells #[.int .i64 fp, .int .i64 fa, .int .i64 fw, .int .i64 lg, .slice (some ⟨bq, 0, none⟩) nb nb] 43)) (xb) 38 #[.slice (some ⟨pb, 0, none⟩) v.n v.n, .slice (some ⟨jb, 0, none⟩) v.m v.m] ∧ Box (w9.alloc (.cells #[.int .i64 fp, .int .i64 fa, .int .i64 fw, .int .i64 lg, .slice (some ⟨bq, 0, none⟩) nb nb] 43)) w9.heap.size 43 #[.int .i64 fp, .int .i64 fa, .int .i64 fw, .int .i64 lg, .slice (some ⟨bq, 0, none⟩) nb nb]) := ⟨M9.out.1.alloc M9.out.1.size _, M9.out.2.1.alloc _, M9.out.2.2.1.alloc _, M9.out.2.2.2.alloc _, Box.new _ _ _⟩
  have Q10 : Hid (VOwn w.heap.size 69 3 (w9.alloc (.cells #[.int .i64 fp, .int .i64 fa, .int .i64 fw, .int .i64 lg, .slice (some ⟨bq, 0, none⟩) nb nb] 43)) (.slice wa N wk) N (intF (prF v (stG v fp fa fw lg nb B))) ∧ VOwn w7.heap.size 79 2 (w9.alloc (.cells #[.int .i64 fp, .int .i64 fa, .int .i64 fw, .int .i64 lg, .slice (some ⟨bq, 0, none⟩) nb nb] 43)) (.slice (some ⟨bq, 0, none⟩) nb nb) nb (intF B) ∧ Below w7.heap.size w7 (w9.alloc (.cells #[.int .i64 fp, .int .i64 fa, .int .i64 fw, .int .i64 lg, .slice (some ⟨bq, 0, none⟩) nb nb] 43))) := ⟨Q9.out.1.alloc _, Q9.out.2.1.alloc _, Q9.out.2.2.alloc Q9.out.2.2.size _⟩
  have HYB0 : Hid (w7.heap.size ≤ w9.heap.size) := Q9.out.2.2.size
  clear M9 Q9
  go_upto_region 11 with fail
  generalize w9.alloc (.cells #[.int .i64 fp, .int .i64 fa, .int .i64 fw, .int .i64 lg, .slice (some ⟨bq, 0, none⟩) nb nb] 43) = V10 at M10 Q10 ⊢
  generalize w9.heap.size = yb at M10 HYB0 ⊢
  have HBQ : Hid (w7.heap.size ≤ bq ∧ bq < V10.heap.size) := Q10.out.2.1.lt (g := bq) rfl
  have HV10 : Hid (w7.heap.size ≤ V10.heap.size) := Q10.out.2.2.size
  have a0 : V10.cell? ⟨w.heap.size, 0, none⟩ = some (.slice pa v.n pc) := M10.out.2.1.cell 0
  have a1 : V10.cell? ⟨w.heap.size, 1, none⟩ = some (.slice ja v.m jc) := M10.out.2.1.cell 1
  have b0 : V10.cell? ⟨w.heap.size + 1, 0, none⟩ = some (.int .i64 fp) := M10.out.2.2.1.cell 0
  have b1 : V10.cell? ⟨w.heap.size + 1, 1, none⟩ = some (.int .i64 fa) := M10.out.2.2.1.cell 1
  have b2 : V10.cell? ⟨w.heap.size + 1, 2, none⟩ = some (.int .i64 fw) := M10.out.2.2.1.cell 2
  have b3 : V10.cell? ⟨w.heap.size + 1, 3, none⟩ = some (.int .i64 lg) := M10.out.2.2.1.cell 3
  have b4 : V10.cell? ⟨w.heap.size + 1, 4, none⟩ = some (.slice ba nb bk) := M10.out.2.2.1.cell 4
  have p0 : V10.cell? ⟨xb, 0, none⟩ = some (.slice (some ⟨pb, 0, none⟩) v.n v.n) := M10.out.2.2.2.1.cell 0
  have p1 : V10.cell? ⟨xb, 1, none⟩ = some (.slice (some ⟨jb, 0, none⟩) v.m v.m) := M10.out.2.2.2.1.cell 1
  have q0 : V10.cell? ⟨yb, 0, none⟩ = some (.int .i64 fp) := M10.out.2.2.2.2.cell 0
  have q1 : V10.cell? ⟨yb, 1, none⟩ = some (.int .i64 fa) := M10.out.2.2.2.2.cell 1
  have q2 : V10.cell? ⟨yb, 2, none⟩ = some (.int .i64 fw) := M10.out.2.2.2.2.cell 2
  have q3 : V10.cell? ⟨yb, 3, none⟩ = some (.int .i64 lg) := M10.out.2.2.2.2.cell 3
  have q4 : V10.cell? ⟨yb, 4, none⟩ = some (.slice (some ⟨bq, 0, none⟩) nb nb) := M10.out.2.2.2.2.cell 4
  go_wp2_with fail
  clear a0 a1 b0 b1 b2 b3 b4 p0 p1 q0 q1 q2 q3 q4
  refine (implBody10 (some ⟨pb, 0, none⟩) v.n (some ⟨jb, 0, none⟩) v.m fp fa fw lg nb B bq 0 nb V10 hn1 hm1 hnb1 (Nat.le_refl _) hn (Nat.le_refl _) hm (HP7.out.1.at.mono (Nat.zero_le _) Q10.out.2.2 (Nat.le_refl _)) (HP7.out.2.1.at.mono (Nat.zero_le _) Q10.out.2.2 (Nat.le_refl _)) H.out.2.2.2.1 HNE2.out (Q10.out.2.1.vs.le (Nat.zero_le _))).mono ?_
  rintro e w11 ⟨ga, gk, he, ho, hb11⟩
  rw [HR.out] at he ho
  subst he
  have M11 : Hid (Below w.heap.size w w11 ∧ Box w11 (w.heap.size) 25 #[.slice pa v.n pc, .slice ja v.m jc] ∧ Box w11 (w.heap.size + 1) 30 #[.int .i64 fp, .int .i64 fa, .int .i64 fw, .int .i64 lg, .slice ba nb bk] ∧ Box w11 (xb) 38 #[.slice (some ⟨pb, 0, none⟩) v.n v.n, .slice (some ⟨jb, 0, none⟩) v.m v.m] ∧ Box w11 (yb) 43 #[.int .i64 fp, .int .i64 fa, .int .i64 fw, .int .i64 lg, .slice (some ⟨bq, 0, none⟩) nb nb]) := ⟨M10.out.1.trans (hb11.mono M10.out.1.size), M10.out.2.1.mono hb11 (Nat.le_refl _), M10.out.2.2.1.mono hb11 (Nat.le_refl _), M10.out.2.2.2.1.mono hb11 (Nat.le_refl _), M10.out.2.2.2.2.mono hb11 (Nat.le_refl _)⟩
  have Q11 : Hid (VOwn w.heap.size 69 3 w11 (.slice wa N wk) N (intF (prF v (stG v fp fa fw lg nb B))) ∧ VOwn w7.heap.size 79 2 w11 (.slice (some ⟨bq, 0, none⟩) nb nb) nb (intF B) ∧ VOwn V10.heap.size 69 3 w11 (.slice ga N gk) N (intF (prF v (stG v fp fa fw lg nb B))) ∧ Below w7.heap.size w7 w11) := ⟨Q10.out.1.mono (Nat.le_refl _) hb11 (Nat.le_refl _), Q10.out.2.1.mono (Nat.le_refl _) hb11 (Nat.le_refl _), ho, Q10.out.2.2.trans (hb11.mono Q10.out.2.2.size)⟩
  have HGB1 : Hid (V10.heap.size ≤ w11.heap.size) := hb11.size
  clear hb11 ho M10 Q10
  go_wp2_with fail
  refine (eqPartS11 ga wa N gk wk (prF v (stG v fp fa fw lg nb B)) w11 hN (Q11.out.2.2.1.vs.le (Nat.zero_le _)) (Q11.out.1.vs.le (Nat.zero_le _))).mono ?_
  rintro e w13 ⟨rfl, hb13⟩
  have M13 : Hid (Below w.heap.size w w13 ∧ Box w13 (w.heap.size) 25 #[.slice pa v.n pc, .slice ja v.m jc] ∧ Box w13 (w.heap.size + 1) 30 #[.int .i64 fp, .int .i64 fa, .int .i64 fw, .int .i64 lg, .slice ba nb bk] ∧ Box w13 (xb) 38 #[.slice (some ⟨pb, 0, none⟩) v.n v.n, .slice (some ⟨jb, 0, none⟩) v.m v.m] ∧ Box w13 (yb) 43 #[.int .i64 fp, .int .i64 fa, .int .i64 fw, .int .i64 lg, .slice (some ⟨bq, 0, none⟩) nb nb]) := ⟨M11.out.1.trans (hb13.mono M11.out.1.size), M11.out.2.1.mono hb13 (Nat.le_refl _), M11.out.2.2.1.mono hb13 (Nat.le_refl _), M11.out.2.2.2.1.mono hb13 (Nat.le_refl _), M11.out.2.2.2.2.mono hb13 (Nat.le_refl _)⟩
  have Q13 : Hid (VOwn w.heap.size 69 3 w13 (.slice wa N wk) N (intF (prF v (stG v fp fa fw lg nb B))) ∧ VOwn w7.heap.size 79 2 w13 (.slice (some ⟨bq, 0, none⟩) nb nb) nb (intF B) ∧ VOwn V10.heap.size 69 3 w13 (.slice ga N gk) N (intF (prF v (stG v fp fa fw lg nb B))) ∧ Below w7.heap.size w7 w13) := ⟨Q11.out.1.mono (Nat.le_refl _) hb13 (Nat.le_refl _), Q11.out.2.1.mono (Nat.le_refl _) hb13 (Nat.le_refl _), Q11.out.2.2.1.mono (Nat.le_refl _) hb13 (Nat.le_refl _), Q11.out.2.2.2.trans (hb13.mono Q11.out.2.2.2.size)⟩
  have HGB2 : Hid (V10.heap.size ≤ w13.heap.size) := Nat.le_trans HGB1.out hb13.size
  have MD : Hid (Below w.heap.size w w13.drew ∧ Box w13.drew (w.heap.size) 25 #[.slice pa v.n pc, .slice ja v.m jc] ∧ Box w13.drew (w.heap.size + 1) 30 #[.int .i64 fp, .int .i64 fa, .int .i64 fw, .int .i64 lg, .slice ba nb bk] ∧ Box w13.drew (xb) 38 #[.slice (some ⟨pb, 0, none⟩) v.n v.n, .slice (some ⟨jb, 0, none⟩) v.m v.m] ∧ Box w13.drew (yb) 43 #[.int .i64 fp, .int .i64 fa, .int .i64 fw, .int .i64 lg, .slice (some ⟨bq, 0, none⟩) nb nb]) := ⟨M13.out.1.drew, M13.out.2.1.drew, M13.out.2.2.1.drew, M13.out.2.2.2.1.drew, M13.out.2.2.2.2.drew⟩
  have QD : Hid (VOwn w.heap.size 69 3 w13.drew (.slice wa N wk) N (intF (prF v (stG v fp fa fw lg nb B))) ∧ VOwn w7.heap.size 79 2 w13.drew (.slice (some ⟨bq, 0, none⟩) nb nb) nb (intF B) ∧ VOwn V10.heap.size 69 3 w13.drew (.slice ga N gk) N (intF (prF v (stG v fp fa fw lg nb B))) ∧ Below w7.heap.size w7 w13.drew) := ⟨Q13.out.1, Q13.out.2.1, Q13.out.2.2.1, Q13.out.2.2.2.drew⟩
  clear hb13 M11 Q11
  have a0 : w13.cell? ⟨w.heap.size, 0, none⟩ = some (.slice pa v.n pc) := M13.out.2.1.cell 0
  have a1 : w13.cell? ⟨w.heap.size, 1, none⟩ = some (.slice ja v.m jc) := M13.out.2.1.cell 1
  have b0 : w13.cell? ⟨w.heap.size + 1, 0, none⟩ = some (.int .i64 fp) := M13.out.2.2.1.cell 0
  have b1 : w13.cell? ⟨w.heap.size + 1, 1, none⟩ = some (.int .i64 fa) := M13.out.2.2.1.cell 1
  have b2 : w13.cell? ⟨w.heap.size + 1, 2, none⟩ = some (.int .i64 fw) := M13.out.2.2.1.cell 2
  have b3 : w13.cell? ⟨w.heap.size + 1, 3, none⟩ = some (.int .i64 lg) := M13.out.2.2.1.cell 3
  have b4 : w13.cell? ⟨w.heap.size + 1, 4, none⟩ = some (.slice ba nb bk) := M13.out.2.2.1.cell 4
  have p0 : w13.cell? ⟨xb, 0, none⟩ = some (.slice (some ⟨pb, 0, none⟩) v.n v.n) := M13.out.2.2.2.1.cell 0
  have p1 : w13.cell? ⟨xb, 1, none⟩ = some (.slice (some ⟨jb, 0, none⟩) v.m v.m) := M13.out.2.2.2.1.cell 1
  have q0 : w13.cell? ⟨yb, 0, none⟩ = some (.int .i64 fp) := M13.out.2.2.2.2.cell 0
  have q1 : w13.cell? ⟨yb, 1, none⟩ = some (.int .i64 fa) := M13.out.2.2.2.2.cell 1
  have q2 : w13.cell? ⟨yb, 2, none⟩ = some (.int .i64 fw) := M13.out.2.2.2.2.cell 2
  have q3 : w13.cell? ⟨yb, 3, none⟩ = some (.int .i64 lg) := M13.out.2.2.2.2.cell 3
  have q4 : w13.cell? ⟨yb, 4, none⟩ = some (.slice (some ⟨bq, 0, none⟩) nb nb) := M13.out.2.2.2.2.cell 4
  go_wp2_with fail
  refine wp_region_held_drew (S := (fun wx : World => wx.cell? ⟨w.heap.size, 0, none⟩ = some (.slice pa v.n pc) ∧ wx.cell? ⟨w.heap.size, 1, none⟩ = some (.slice ja v.m jc) ∧ wx.cell? ⟨w.heap.size + 1, 0, none⟩ = some (.int .i64 fp) ∧ wx.cell? ⟨w.heap.size + 1, 1, none⟩ = some (.int .i64 fa) ∧ wx.cell? ⟨w.heap.size + 1, 2, none⟩ = some (.int .i64 fw) ∧ wx.cell? ⟨w.heap.size + 1, 3, none⟩ = some (.int .i64 lg) ∧ wx.cell? ⟨w.heap.size + 1, 4, none⟩ = some (.slice ba nb bk) ∧ wx.cell? ⟨xb, 0, none⟩ = some (.slice (some ⟨pb, 0, none⟩) v.n v.n) ∧ wx.cell? ⟨xb, 1, none⟩ = some (.slice (some ⟨jb, 0, none⟩) v.m v.m) ∧ wx.cell? ⟨yb, 0, none⟩ = some (.int .i64 fp) ∧ wx.cell? ⟨yb, 1, none⟩ = some (.int .i64 fa) ∧ wx.cell? ⟨yb, 2, none⟩ = some (.int .i64 fw) ∧ wx.cell? ⟨yb, 3, none⟩ = some (.int .i64 lg) ∧ wx.cell? ⟨yb, 4, none⟩ = some (.slice (some ⟨bq, 0, none⟩) nb nb))) (by kernel_rfl) ?_ (fun hHeld => ?_)
  · exact ⟨a0, a1, b0, b1, b2, b3, b4, p0, p1, q0, q1, q2, q3, q4⟩
  refine tk 0 ?_
  refine tk 1 ?_
  refine rl 2 fun K hK => ?_
  go_simp
  refine (toNetR pa pc ja jc _ hn1 hm1 (H.out.1.mono (Nat.le_refl _) MD.out.1 (Nat.le_refl _)) (H.out.2.1.mono (Nat.le_refl _) MD.out.1 (Nat.le_refl _)) HNE.out).mono ?_
  rintro e wx1 ⟨pa3, ja3, rfl, hPa, hJa, hba⟩
  have Ma : Hid (Below w.heap.size w wx1 ∧ Box wx1 (w.heap.size) 25 #[.slice pa v.n pc, .slice ja v.m jc] ∧ Box wx1 (w.heap.size + 1) 30 #[.int .i64 fp, .int .i64 fa, .int .i64 fw, .int .i64 lg, .slice ba nb bk] ∧ Box wx1 (xb) 38 #[.slice (some ⟨pb, 0, none⟩) v.n v.n, .slice (some ⟨jb, 0, none⟩) v.m v.m] ∧ Box wx1 (yb) 43 #[.int .i64 fp, .int .i64 fa, .int .i64 fw, .int .i64 lg, .slice (some ⟨bq, 0, none⟩) nb nb]) := ⟨MD.out.1.trans (hba.mono MD.out.1.size), MD.out.2.1.mono hba (Nat.le_refl _), MD.out.2.2.1.mono hba (Nat.le_refl _), MD.out.2.2.2.1.mono hba (Nat.le_refl _), MD.out.2.2.2.2.mono hba (Nat.le_refl _)⟩
  have Qa : Hid ((PsAt 0 wx1 pa3 v.n v.P ∧ JsAt 0 wx1 ja3 v.m v.J) ∧ VOwn w.heap.size 69 3 wx1 (.slice wa N wk) N (intF (prF v (stG v fp fa fw lg nb B))) ∧ VOwn w7.heap.size 79 2 wx1 (.slice (some ⟨bq, 0, none⟩) nb nb) nb (intF B) ∧ VOwn V10.heap.size 69 3 wx1 (.slice ga N gk) N (intF (prF v (stG v fp fa fw lg nb B))) ∧ Below w7.heap.size w7 wx1) := ⟨⟨hPa, hJa⟩, ⟨QD.out.1.mono (Nat.le_refl _) hba (Nat.le_refl _), QD.out.2.1.mono (Nat.le_refl _) hba (Nat.le_refl _), QD.out.2.2.1.mono (Nat.le_refl _) hba (Nat.le_refl _), QD.out.2.2.2.trans (hba.mono QD.out.2.2.2.size)⟩⟩
  have HZ1 : Hid (V10.heap.size ≤ wx1.heap.size) := Nat.le_trans HGB2.out hba.size
  clear hba hPa hJa
  go_wp2_with fail
  refine hK.out _ _ ?_ (fun hHeld2 => ?_)
  · exact ⟨Ma.out.2.1.cell 0, Ma.out.2.1.cell 1, Ma.out.2.2.1.cell 0, Ma.out.2.2.1.cell 1, Ma.out.2.2.1.cell 2, Ma.out.2.2.1.cell 3, Ma.out.2.2.1.cell 4, Ma.out.2.2.2.1.cell 0, Ma.out.2.2.2.1.cell 1, Ma.out.2.2.2.2.cell 0, Ma.out.2.2.2.2.cell 1, Ma.out.2.2.2.2.cell 2, Ma.out.2.2.2.2.cell 3, Ma.out.2.2.2.2.cell 4⟩
  clear hK K
  refine rl 3 fun K hK => ?_
  go_simp
  refine (eqNet10 (some ⟨pb, 0, none⟩) pa3 v.n v.n v.n v.P (some ⟨jb, 0, none⟩) ja3 v.m v.m v.m v.J wx1 hn1 hm1 (HP7.out.1.at.mono (Nat.zero_le _) Qa.out.2.2.2.2 (Nat.le_refl _)) Qa.out.1.1 (HP7.out.2.1.at.mono (Nat.zero_le _) Qa.out.2.2.2.2 (Nat.le_refl _)) Qa.out.1.2 HNE.out).mono ?_
  rintro e wx2 ⟨rfl, hbb⟩
  have Mb : Hid (Below w.heap.size w wx2 ∧ Box wx2 (w.heap.size) 25 #[.slice pa v.n pc, .slice ja v.m jc] ∧ Box wx2 (w.heap.size + 1) 30 #[.int .i64 fp, .int .i64 fa, .int .i64 fw, .int .i64 lg, .slice ba nb bk] ∧ Box wx2 (xb) 38 #[.slice (some ⟨pb, 0, none⟩) v.n v.n, .slice (some ⟨jb, 0, none⟩) v.m v.m] ∧ Box wx2 (yb) 43 #[.int .i64 fp, .int .i64 fa, .int .i64 fw, .int .i64 lg, .slice (some ⟨bq, 0, none⟩) nb nb]) := ⟨Ma.out.1.trans (hbb.mono Ma.out.1.size), Ma.out.2.1.mono hbb (Nat.le_refl _), Ma.out.2.2.1.mono hbb (Nat.le_refl _), Ma.out.2.2.2.1.mono hbb (Nat.le_refl _), Ma.out.2.2.2.2.mono hbb (Nat.le_refl _)⟩
  have Qb : Hid (VOwn w.heap.size 69 3 wx2 (.slice wa N wk) N (intF (prF v (stG v fp fa fw lg nb B))) ∧ VOwn w7.heap.size 79 2 wx2 (.slice (some ⟨bq, 0, none⟩) nb nb) nb (intF B) ∧ VOwn V10.heap.size 69 3 wx2 (.slice ga N gk) N (intF (prF v (stG v fp fa fw lg nb B))) ∧ Below w7.heap.size w7 wx2) := ⟨Qa.out.2.1.mono (Nat.le_refl _) hbb (Nat.le_refl _), Qa.out.2.2.1.mono (Nat.le_refl _) hbb (Nat.le_refl _), Qa.out.2.2.2.1.mono (Nat.le_refl _) hbb (Nat.le_refl _), Qa.out.2.2.2.2.trans (hbb.mono Qa.out.2.2.2.2.size)⟩
  have HZ2 : Hid (V10.heap.size ≤ wx2.heap.size) := Nat.le_trans HZ1.out hbb.size
  clear hbb
  go_wp2_with fail
  refine hK.out _ _ ?_ (fun hHeld3 => ?_)
  · exact ⟨Mb.out.2.1.cell 0, Mb.out.2.1.cell 1, Mb.out.2.2.1.cell 0, Mb.out.2.2.1.cell 1, Mb.out.2.2.1.cell 2, Mb.out.2.2.1.cell 3, Mb.out.2.2.1.cell 4, Mb.out.2.2.2.1.cell 0, Mb.out.2.2.2.1.cell 1, Mb.out.2.2.2.2.cell 0, Mb.out.2.2.2.2.cell 1, Mb.out.2.2.2.2.cell 2, Mb.out.2.2.2.2.cell 3, Mb.out.2.2.2.2.cell 4⟩
  clear hK K
  refine tk 4 ?_
  refine wpAnyH_done (by kernel_rfl) ?_ _
  clear a0 a1 b0 b1 b2 b3 b4 p0 p1 q0 q1 q2 q3 q4 MD QD Ma Qa M13 Q13
  have ME : Hid (Below w.heap.size w wx2.drew ∧ Box wx2.drew (w.heap.size) 25 #[.slice pa v.n pc, .slice ja v.m jc] ∧ Box wx2.drew (w.heap.size + 1) 30 #[.int .i64 fp, .int .i64 fa, .int .i64 fw, .int .i64 lg, .slice ba nb bk] ∧ Box wx2.drew (xb) 38 #[.slice (some ⟨pb, 0, none⟩) v.n v.n, .slice (some ⟨jb, 0, none⟩) v.m v.m] ∧ Box wx2.drew (yb) 43 #[.int .i64 fp, .int .i64 fa, .int .i64 fw, .int .i64 lg, .slice (some ⟨bq, 0, none⟩) nb nb]) := ⟨Mb.out.1.drew, Mb.out.2.1.drew, Mb.out.2.2.1.drew, Mb.out.2.2.2.1.drew, Mb.out.2.2.2.2.drew⟩
  have QE : Hid (VOwn w.heap.size 69 3 wx2.drew (.slice wa N wk) N (intF (prF v (stG v fp fa fw lg nb B))) ∧ VOwn w7.heap.size 79 2 wx2.drew (.slice (some ⟨bq, 0, none⟩) nb nb) nb (intF B) ∧ VOwn V10.heap.size 69 3 wx2.drew (.slice ga N gk) N (intF (prF v (stG v fp fa fw lg nb B))) ∧ Below w7.heap.size w7 wx2.drew) := ⟨Qb.out.1, Qb.out.2.1, Qb.out.2.2.1, Qb.out.2.2.2.drew⟩
  have a0 : wx2.cell? ⟨w.heap.size, 0, none⟩ = some (.slice pa v.n pc) := Mb.out.2.1.cell 0
  have a1 : wx2.cell? ⟨w.heap.size, 1, none⟩ = some (.slice ja v.m jc) := Mb.out.2.1.cell 1
  have b0 : wx2.cell? ⟨w.heap.size + 1, 0, none⟩ = some (.int .i64 fp) := Mb.out.2.2.1.cell 0
  have b1 : wx2.cell? ⟨w.heap.size + 1, 1, none⟩ = some (.int .i64 fa) := Mb.out.2.2.1.cell 1
  have b2 : wx2.cell? ⟨w.heap.size + 1, 2, none⟩ = some (.int .i64 fw) := Mb.out.2.2.1.cell 2
  have b3 : wx2.cell? ⟨w.heap.size + 1, 3, none⟩ = some (.int .i64 lg) := Mb.out.2.2.1.cell 3
  have b4 : wx2.cell? ⟨w.heap.size + 1, 4, none⟩ = some (.slice ba nb bk) := Mb.out.2.2.1.cell 4
  have p0 : wx2.cell? ⟨xb, 0, none⟩ = some (.slice (some ⟨pb, 0, none⟩) v.n v.n) := Mb.out.2.2.2.1.cell 0
  have p1 : wx2.cell? ⟨xb, 1, none⟩ = some (.slice (some ⟨jb, 0, none⟩) v.m v.m) := Mb.out.2.2.2.1.cell 1
  have q0 : wx2.cell? ⟨yb, 0, none⟩ = some (.int .i64 fp) := Mb.out.2.2.2.2.cell 0
  have q1 : wx2.cell? ⟨yb, 1, none⟩ = some (.int .i64 fa) := Mb.out.2.2.2.2.cell 1
  have q2 : wx2.cell? ⟨yb, 2, none⟩ = some (.int .i64 fw) := Mb.out.2.2.2.2.cell 2
  have q3 : wx2.cell? ⟨yb, 3, none⟩ = some (.int .i64 lg) := Mb.out.2.2.2.2.cell 3
  have q4 : wx2.cell? ⟨yb, 4, none⟩ = some (.slice (some ⟨bq, 0, none⟩) nb nb) := Mb.out.2.2.2.2.cell 4
  go_wp2_with fail
  refine wp_region_held_drew (S := (fun wx : World => wx.cell? ⟨w.heap.size, 0, none⟩ = some (.slice pa v.n pc) ∧ wx.cell? ⟨w.heap.size, 1, none⟩ = some (.slice ja v.m jc) ∧ wx.cell? ⟨w.heap.size + 1, 0, none⟩ = some (.int .i64 fp) ∧ wx.cell? ⟨w.heap.size + 1, 1, none⟩ = some (.int .i64 fa) ∧ wx.cell? ⟨w.heap.size + 1, 2, none⟩ = some (.int .i64 fw) ∧ wx.cell? ⟨w.heap.size + 1, 3, none⟩ = some (.int .i64 lg) ∧ wx.cell? ⟨w.heap.size + 1, 4, none⟩ = some (.slice ba nb bk) ∧ wx.cell? ⟨xb, 0, none⟩ = some (.slice (some ⟨pb, 0, none⟩) v.n v.n) ∧ wx.cell? ⟨xb, 1, none⟩ = some (.slice (some ⟨jb, 0, none⟩) v.m v.m) ∧ wx.cell? ⟨yb, 0, none⟩ = some (.int .i64 fp) ∧ wx.cell? ⟨yb, 1, none⟩ = some (.int .i64 fa) ∧ wx.cell? ⟨yb, 2, none⟩ = some (.int .i64 fw) ∧ wx.cell? ⟨yb, 3, none⟩ = some (.int .i64 lg) ∧ wx.cell? ⟨yb, 4, none⟩ = some (.slice (some ⟨bq, 0, none⟩) nb nb))) (by kernel_rfl) ?_ (fun hHeld => ?_)
  · exact ⟨a0, a1, b0, b1, b2, b3, b4, p0, p1, q0, q1, q2, q3, q4⟩
  refine tk 0 ?_
  refine tk 1 ?_
  refine rl 2 fun K hK => ?_
  go_simp
  refine (toTrain16 fp fa fw lg nb B ba bk _ hnb1 (H.out.2.2.1.mono (Nat.le_refl _) ME.out.1 (Nat.le_refl _))).mono ?_
  rintro e wx3 ⟨bz, rfl, hBc, hbc⟩
  have Mc : Hid (Below w.heap.size w wx3 ∧ Box wx3 (w.heap.size) 25 #[.slice pa v.n pc, .slice ja v.m jc] ∧ Box wx3 (w.heap.size + 1) 30 #[.int .i64 fp, .int .i64 fa, .int .i64 fw, .int .i64 lg, .slice ba nb bk] ∧ Box wx3 (xb) 38 #[.slice (some ⟨pb, 0, none⟩) v.n v.n, .slice (some ⟨jb, 0, none⟩) v.m v.m] ∧ Box wx3 (yb) 43 #[.int .i64 fp, .int .i64 fa, .int .i64 fw, .int .i64 lg, .slice (some ⟨bq, 0, none⟩) nb nb]) := ⟨ME.out.1.trans (hbc.mono ME.out.1.size), ME.out.2.1.mono hbc (Nat.le_refl _), ME.out.2.2.1.mono hbc (Nat.le_refl _), ME.out.2.2.2.1.mono hbc (Nat.le_refl _), ME.out.2.2.2.2.mono hbc (Nat.le_refl _)⟩
  have Qc : Hid (NsAt 2 0 wx3 (some ⟨bz, 0, none⟩) nb B ∧ VOwn w.heap.size 69 3 wx3 (.slice wa N wk) N (intF (prF v (stG v fp fa fw lg nb B))) ∧ VOwn w7.heap.size 79 2 wx3 (.slice (some ⟨bq, 0, none⟩) nb nb) nb (intF B) ∧ VOwn V10.heap.size 69 3 wx3 (.slice ga N gk) N (intF (prF v (stG v fp fa fw lg nb B))) ∧ Below w7.heap.size w7 wx3) := ⟨(hBc.keep (Nat.zero_le _) (Nat.le_refl _) fun _ _ _ => rfl), ⟨QE.out.1.mono (Nat.le_refl _) hbc (Nat.le_refl _), QE.out.2.1.mono (Nat.le_refl _) hbc (Nat.le_refl _), QE.out.2.2.1.mono (Nat.le_refl _) hbc (Nat.le_refl _), QE.out.2.2.2.trans (hbc.mono QE.out.2.2.2.size)⟩⟩
  have HZ3 : Hid (V10.heap.size ≤ wx3.heap.size) := Nat.le_trans HZ2.out hbc.size
  clear hbc hBc
  go_wp2_with fail
  refine hK.out _ _ ?_ (fun hHeld2 => ?_)
  · exact ⟨Mc.out.2.1.cell 0, Mc.out.2.1.cell 1, Mc.out.2.2.1.cell 0, Mc.out.2.2.1.cell 1, Mc.out.2.2.1.cell 2, Mc.out.2.2.1.cell 3, Mc.out.2.2.1.cell 4, Mc.out.2.2.2.1.cell 0, Mc.out.2.2.2.1.cell 1, Mc.out.2.2.2.2.cell 0, Mc.out.2.2.2.2.cell 1, Mc.out.2.2.2.2.cell 2, Mc.out.2.2.2.2.cell 3, Mc.out.2.2.2.2.cell 4⟩
  clear hK K
  refine rl 3 fun K hK => ?_
  go_simp
  refine (eqTrain18 fp fa fw lg nb B (some ⟨bq, 0, none⟩) (some ⟨bz, 0, none⟩) nb nb wx3 hnb1 (Qc.out.2.2.1.vs.le (Nat.zero_le _)) Qc.out.1).mono ?_
  rintro e wx4 ⟨rfl, hbd⟩
  have Md : Hid (Below w.heap.size w wx4 ∧ Box wx4 (w.heap.size) 25 #[.slice pa v.n pc, .slice ja v.m jc] ∧ Box wx4 (w.heap.size + 1) 30 #[.int .i64 fp, .int .i64 fa, .int .i64 fw, .int .i64 lg, .slice ba nb bk] ∧ Box wx4 (xb) 38 #[.slice (some ⟨pb, 0, none⟩) v.n v.n, .slice (some ⟨jb, 0, none⟩) v.m v.m] ∧ Box wx4 (yb) 43 #[.int .i64 fp, .int .i64 fa, .int .i64 fw, .int .i64 lg, .slice (some ⟨bq, 0, none⟩) nb nb]) := ⟨Mc.out.1.trans (hbd.mono Mc.out.1.size), Mc.out.2.1.mono hbd (Nat.le_refl _), Mc.out.2.2.1.mono hbd (Nat.le_refl _), Mc.out.2.2.2.1.mono hbd (Nat.le_refl _), Mc.out.2.2.2.2.mono hbd (Nat.le_refl _)⟩
  have Qd : Hid (VOwn w.heap.size 69 3 wx4 (.slice wa N wk) N (intF (prF v (stG v fp fa fw lg nb B))) ∧ VOwn w7.heap.size 79 2 wx4 (.slice (some ⟨bq, 0, none⟩) nb nb) nb (intF B) ∧ VOwn V10.heap.size 69 3 wx4 (.slice ga N gk) N (intF (prF v (stG v fp fa fw lg nb B))) ∧ Below w7.heap.size w7 wx4) := ⟨Qc.out.2.1.mono (Nat.le_refl _) hbd (Nat.le_refl _), Qc.out.2.2.1.mono (Nat.le_refl _) hbd (Nat.le_refl _), Qc.out.2.2.2.1.mono (Nat.le_refl _) hbd (Nat.le_refl _), Qc.out.2.2.2.2.trans (hbd.mono Qc.out.2.2.2.2.size)⟩
  have HZ4 : Hid (V10.heap.size ≤ wx4.heap.size) := Nat.le_trans HZ3.out hbd.size
  clear hbd
  go_wp2_with fail
  refine hK.out _ _ ?_ (fun hHeld3 => ?_)
  · exact ⟨Md.out.2.1.cell 0, Md.out.2.1.cell 1, Md.out.2.2.1.cell 0, Md.out.2.2.1.cell 1, Md.out.2.2.1.cell 2, Md.out.2.2.1.cell 3, Md.out.2.2.1.cell 4, Md.out.2.2.2.1.cell 0, Md.out.2.2.2.1.cell 1, Md.out.2.2.2.2.cell 0, Md.out.2.2.2.2.cell 1, Md.out.2.2.2.2.cell 2, Md.out.2.2.2.2.cell 3, Md.out.2.2.2.2.cell 4⟩
  clear hK K
  refine tk 4 ?_
  refine wpAnyH_done (by kernel_rfl) ?_ _
  clear a0 a1 b0 b1 b2 b3 b4 p0 p1 q0 q1 q2 q3 q4 ME QE Mc Qc Mb Qb
  have HV4 : Hid (V10.heap.size ≤ wx4.heap.size) := HZ4.out
  obtain ⟨bs, hsh, hsame⟩ := HP7.out.2.1.sh HNE.out
  have hro : ∃ f, wx4.rowIs pb 82 (v.n * 4) f := by
    obtain ⟨f, hr, _⟩ := HP7.out.1
    exact ⟨f, rowBel hr Qd.out.2.2.2 hr.lt⟩
  have HRO : Hid ((∃ f, wx4.rowIs pb 82 (v.n * 4) f) ∧ JsSh wx4 jb w7.heap.size v.m (fun j => (v.J j).ne) bs ∧ ∀ i j, i < v.m → j < v.m → bs j = bs i → (v.J j).ne = (v.J i).ne) := ⟨hro, hsh.below Qd.out.2.2.2, hsame⟩
  clear hro hsh hsame
  have a0 : wx4.cell? ⟨w.heap.size, 0, none⟩ = some (.slice pa v.n pc) := Md.out.2.1.cell 0
  have a1 : wx4.cell? ⟨w.heap.size, 1, none⟩ = some (.slice ja v.m jc) := Md.out.2.1.cell 1
  have b0 : wx4.cell? ⟨w.heap.size + 1, 0, none⟩ = some (.int .i64 fp) := Md.out.2.2.1.cell 0
  have b1 : wx4.cell? ⟨w.heap.size + 1, 1, none⟩ = some (.int .i64 fa) := Md.out.2.2.1.cell 1
  have b2 : wx4.cell? ⟨w.heap.size + 1, 2, none⟩ = some (.int .i64 fw) := Md.out.2.2.1.cell 2
  have b3 : wx4.cell? ⟨w.heap.size + 1, 3, none⟩ = some (.int .i64 lg) := Md.out.2.2.1.cell 3
  have b4 : wx4.cell? ⟨w.heap.size + 1, 4, none⟩ = some (.slice ba nb bk) := Md.out.2.2.1.cell 4
  have p0 : wx4.cell? ⟨xb, 0, none⟩ = some (.slice (some ⟨pb, 0, none⟩) v.n v.n) := Md.out.2.2.2.1.cell 0
  have p1 : wx4.cell? ⟨xb, 1, none⟩ = some (.slice (some ⟨jb, 0, none⟩) v.m v.m) := Md.out.2.2.2.1.cell 1
  have q0 : wx4.cell? ⟨yb, 0, none⟩ = some (.int .i64 fp) := Md.out.2.2.2.2.cell 0
  have q1 : wx4.cell? ⟨yb, 1, none⟩ = some (.int .i64 fa) := Md.out.2.2.2.2.cell 1
  have q2 : wx4.cell? ⟨yb, 2, none⟩ = some (.int .i64 fw) := Md.out.2.2.2.2.cell 2
  have q3 : wx4.cell? ⟨yb, 3, none⟩ = some (.int .i64 lg) := Md.out.2.2.2.2.cell 3
  have q4 : wx4.cell? ⟨yb, 4, none⟩ = some (.slice (some ⟨bq, 0, none⟩) nb nb) := Md.out.2.2.2.2.cell 4
  go_wp2_with fail
  clear a0 a1 b0 b1 b2 b3 b4 p0 p1 q0 q1 q2 q3 q4
  refine (markNet20x pb v.n jb v.m 1 w7.heap.size _ bs wx4 hn1 hm1 (by omega) HRO.out.1 HRO.out.2.1 HRO.out.2.2 HP7.out.2.2.1 HP7.out.2.2.2 Qd.out.2.2.2.size).mono ?_
  rintro e wm ⟨k1, rfl, hk1, hA⟩
  have HA : Hid (Amid pb w7.heap.size wx4 wm) := hA
  have Mm : Hid (Below w.heap.size w wm ∧ Box wm (w.heap.size) 25 #[.slice pa v.n pc, .slice ja v.m jc] ∧ Box wm (w.heap.size + 1) 30 #[.int .i64 fp, .int .i64 fa, .int .i64 fw, .int .i64 lg, .slice ba nb bk] ∧ Box wm (xb) 38 #[.slice (some ⟨pb, 0, none⟩) v.n v.n, .slice (some ⟨jb, 0, none⟩) v.m v.m] ∧ Box wm (yb) 43 #[.int .i64 fp, .int .i64 fa, .int .i64 fw, .int .i64 lg, .slice (some ⟨bq, 0, none⟩) nb nb]) := ⟨Md.out.1.trans (HA.out.below (by have := HLB.out; omega) Md.out.1.size), Md.out.2.1.keep (HA.out.block _ Md.out.2.1.lt (Or.inl (by have := HLB.out; omega))), Md.out.2.2.1.keep (HA.out.block _ Md.out.2.2.1.lt (Or.inl HLB.out)), Md.out.2.2.2.1.keep (HA.out.block _ Md.out.2.2.2.1.lt (Or.inr (by omega))), Md.out.2.2.2.2.keep (HA.out.block _ Md.out.2.2.2.2.lt (Or.inr HYB0.out))⟩
  have Qm : Hid (VOwn w.heap.size 69 3 wm (.slice wa N wk) N (intF (prF v (stG v fp fa fw lg nb B))) ∧ VOwn w7.heap.size 79 2 wm (.slice (some ⟨bq, 0, none⟩) nb nb) nb (intF B) ∧ VOwn V10.heap.size 69 3 wm (.slice ga N gk) N (intF (prF v (stG v fp fa fw lg nb B)))) := ⟨Qd.out.1.keep (Nat.le_refl _) (fun g hg => HA.out.block g (Qd.out.1.lt hg).2 (Or.inl (HL0.out g hg))), Qd.out.2.1.keep (Nat.le_refl _) (fun g hg => HA.out.block g (Qd.out.2.1.lt hg).2 (Or.inr (Qd.out.2.1.lt hg).1)), Qd.out.2.2.1.keep (Nat.le_refl _) (fun g hg => HA.out.block g (Qd.out.2.2.1.lt hg).2 (Or.inr (Nat.le_trans HV10.out (Qd.out.2.2.1.lt hg).1)))⟩
  have HBW : Hid (V10.heap.size ≤ wm.heap.size) := by have h1 := HA.out.size; have h2 := Qd.out.2.2.2.size; show _ ≤ _; exact Nat.le_trans HV4.out h1
  clear hA HA HRO Md Qd
  have a0 : wm.cell? ⟨w.heap.size, 0, none⟩ = some (.slice pa v.n pc) := Mm.out.2.1.cell 0
  have a1 : wm.cell? ⟨w.heap.size, 1, none⟩ = some (.slice ja v.m jc) := Mm.out.2.1.cell 1
  have b0 : wm.cell? ⟨w.heap.size + 1, 0, none⟩ = some (.int .i64 fp) := Mm.out.2.2.1.cell 0
  have b1 : wm.cell? ⟨w.heap.size + 1, 1, none⟩ = some (.int .i64 fa) := Mm.out.2.2.1.cell 1
  have b2 : wm.cell? ⟨w.heap.size + 1, 2, none⟩ = some (.int .i64 fw) := Mm.out.2.2.1.cell 2
  have b3 : wm.cell? ⟨w.heap.size + 1, 3, none⟩ = some (.int .i64 lg) := Mm.out.2.2.1.cell 3
  have b4 : wm.cell? ⟨w.heap.size + 1, 4, none⟩ = some (.slice ba nb bk) := Mm.out.2.2.1.cell 4
  have p0 : wm.cell? ⟨xb, 0, none⟩ = some (.slice (some ⟨pb, 0, none⟩) v.n v.n) := Mm.out.2.2.2.1.cell 0
  have p1 : wm.cell? ⟨xb, 1, none⟩ = some (.slice (some ⟨jb, 0, none⟩) v.m v.m) := Mm.out.2.2.2.1.cell 1
  have q0 : wm.cell? ⟨yb, 0, none⟩ = some (.int .i64 fp) := Mm.out.2.2.2.2.cell 0
  have q1 : wm.cell? ⟨yb, 1, none⟩ = some (.int .i64 fa) := Mm.out.2.2.2.2.cell 1
  have q2 : wm.cell? ⟨yb, 2, none⟩ = some (.int .i64 fw) := Mm.out.2.2.2.2.cell 2
  have q3 : wm.cell? ⟨yb, 3, none⟩ = some (.int .i64 lg) := Mm.out.2.2.2.2.cell 3
  have q4 : wm.cell? ⟨yb, 4, none⟩ = some (.slice (some ⟨bq, 0, none⟩) nb nb) := Mm.out.2.2.2.2.cell 4
  go_wp2_with fail
  clear a0 a1 b0 b1 b2 b3 b4 p0 p1 q0 q1 q2 q3 q4
  obtain ⟨g1, hg1, hg2, hg3, hg4, hg5⟩ := own_markG Qm.out.2.1 (Nat.le_trans HBQ.out.1 (Nat.le_of_lt (Qm.out.2.1.lt (g := bq) rfl).2))
  have hw1 : ∀ o, 0 ≤ o → o < 0 + nb * 2 → (∃ v, wm.cell? ⟨bq, o, none⟩ = some v) ∧ wm.frozen? ⟨bq, o, none⟩ = false := fun o h1 h2 => by
    have e := hg1 (by omega)
    simp only [Option.some.injEq, Addr.mk.injEq, and_true] at e
    subst e
    exact hg4 o h1 h2
  have HNB : Hid (∀ q T xs, T ≠ 79 → Box wm q T xs → q ≠ bq) := fun q T xs hT hb e => (Qm.out.2.1.off hb hT (g := bq) rfl) e.symm
  clear hg1 hg2 hg3 hg4 hg5
  refine (markTrain15 fp fa fw lg (some ⟨bq, 0, none⟩) nb nb k1 bq 0 wm hnb1 (by omega) (fun _ => rfl) (fun _ => (Qm.out.2.1.lt (g := bq) rfl).2) hw1).mono ?_
  clear hw1
  rintro e wn ⟨he, ⟨ob1, hW1⟩, _⟩
  obtain ⟨k2, hk2⟩ : ∃ k2, k1 + nb * 2 = k2 := ⟨_, rfl⟩
  rw [hk2] at he
  subst he
  have HF1 : Hid (Fr (fun b => b = bq) wm wn) := within_frG hW1
  have Mn : Hid (Below w.heap.size w wn ∧ Box wn (w.heap.size) 25 #[.slice pa v.n pc, .slice ja v.m jc] ∧ Box wn (w.heap.size + 1) 30 #[.int .i64 fp, .int .i64 fa, .int .i64 fw, .int .i64 lg, .slice ba nb bk] ∧ Box wn (xb) 38 #[.slice (some ⟨pb, 0, none⟩) v.n v.n, .slice (some ⟨jb, 0, none⟩) v.m v.m] ∧ Box wn (yb) 43 #[.int .i64 fp, .int .i64 fa, .int .i64 fw, .int .i64 lg, .slice (some ⟨bq, 0, none⟩) nb nb]) := ⟨Mm.out.1.trans (HF1.out.below Mm.out.1.size (fun k hk e => by have h1 := HLB.out; have h2 := HP7.out.2.2; have h3 := HBQ.out; omega)), Mm.out.2.1.fr HF1.out (fun e => HNB.out _ _ _ (by decide) Mm.out.2.1 e), Mm.out.2.2.1.fr HF1.out (fun e => HNB.out _ _ _ (by decide) Mm.out.2.2.1 e), Mm.out.2.2.2.1.fr HF1.out (fun e => HNB.out _ _ _ (by decide) Mm.out.2.2.2.1 e), Mm.out.2.2.2.2.fr HF1.out (fun e => HNB.out _ _ _ (by decide) Mm.out.2.2.2.2 e)⟩
  have Qn : Hid (VOwn w.heap.size 69 3 wn (.slice wa N wk) N (intF (prF v (stG v fp fa fw lg nb B))) ∧ VOwn V10.heap.size 69 3 wn (.slice ga N gk) N (intF (prF v (stG v fp fa fw lg nb B)))) := ⟨Qm.out.1.fr HF1.out (fun g hg e => by have h0 := HL0.out g hg; have h1 := HLB.out; have h2 := HP7.out.2.2; have h3 := HBQ.out; omega), Qm.out.2.2.fr HF1.out (fun g hg e => by have h0 := (Qm.out.2.2.lt hg).1; have h1 := HLB.out; have h2 := HP7.out.2.2; have h3 := HBQ.out; omega)⟩
  have HBN : Hid (V10.heap.size ≤ wn.heap.size) := Nat.le_trans HBW.out HF1.out.size
  clear hW1 HF1 HNB Mm Qm hk2
  have hnn : ¬ ((k2 : Int) < 0) := by omega
  have hnd : decide ((k2 : Int) < 0) = false := by simp
  go_wp2_with fail
  refine (eqPartS11 ga wa N gk wk (prF v (stG v fp fa fw lg nb B)) wn hN (Qn.out.2.vs.le (Nat.zero_le _)) (Qn.out.1.vs.le (Nat.zero_le _))).mono ?_
  rintro e wo ⟨rfl, hb14⟩
  have Mo : Hid (Below w.heap.size w wo ∧ Box wo (w.heap.size) 25 #[.slice pa v.n pc, .slice ja v.m jc] ∧ Box wo (w.heap.size + 1) 30 #[.int .i64 fp, .int .i64 fa, .int .i64 fw, .int .i64 lg, .slice ba nb bk] ∧ Box wo (xb) 38 #[.slice (some ⟨pb, 0, none⟩) v.n v.n, .slice (some ⟨jb, 0, none⟩) v.m v.m] ∧ Box wo (yb) 43 #[.int .i64 fp, .int .i64 fa, .int .i64 fw, .int .i64 lg, .slice (some ⟨bq, 0, none⟩) nb nb]) := ⟨Mn.out.1.trans (hb14.mono Mn.out.1.size), Mn.out.2.1.mono hb14 (Nat.le_refl _), Mn.out.2.2.1.mono hb14 (Nat.le_refl _), Mn.out.2.2.2.1.mono hb14 (Nat.le_refl _), Mn.out.2.2.2.2.mono hb14 (Nat.le_refl _)⟩
  have Qo : Hid (VOwn w.heap.size 69 3 wo (.slice wa N wk) N (intF (prF v (stG v fp fa fw lg nb B))) ∧ VOwn V10.heap.size 69 3 wo (.slice ga N gk) N (intF (prF v (stG v fp fa fw lg nb B)))) := ⟨Qn.out.1.mono (Nat.le_refl _) hb14 (Nat.le_refl _), Qn.out.2.mono (Nat.le_refl _) hb14 (Nat.le_refl _)⟩
  have HBO : Hid (V10.heap.size ≤ wo.heap.size) := Nat.le_trans HBN.out hb14.size
  clear hb14 Mn Qn
  go_wp2_with fail
  obtain ⟨gg, hg1, hg2, hg3, hg4, hg5⟩ := own_markG Qo.out.2 HBO.out
  have HNB : Hid (∀ q T xs, T ≠ 69 → Box wo q T xs → q ≠ gg) := hg5
  have HGG : Hid ((0 < N → ga = some ⟨gg, 0, none⟩) ∧ (0 < N → gg < wo.heap.size) ∧ V10.heap.size ≤ gg) := ⟨hg1, hg2, hg3⟩
  refine (markPartS55 ga N gk 1 gg 0 wo hN (by omega) hg1 hg4).mono ?_
  clear hg1 hg2 hg3 hg4 hg5
  rintro e wp ⟨he, hW2, hmk⟩
  obtain ⟨mm, HMM⟩ : ∃ mm, Hid (1 + N * 3 = mm) := ⟨_, rfl⟩
  rw [HMM.out] at he
  subst he
  have HF2 : Hid (Fr (fun b => b = gg) wo wp) := within_fr0 hW2
  have HMK : Hid (∀ i, i < N → ∀ j, j < 3 → wp.cell? ⟨gg, 0 + i * 3 + j, none⟩ = some (.int .i64 ((1 + i * 3 + j : Nat) : Int))) := hmk
  have Mp : Hid (Below w.heap.size w wp ∧ Box wp (w.heap.size) 25 #[.slice pa v.n pc, .slice ja v.m jc] ∧ Box wp (w.heap.size + 1) 30 #[.int .i64 fp, .int .i64 fa, .int .i64 fw, .int .i64 lg, .slice ba nb bk] ∧ Box wp (xb) 38 #[.slice (some ⟨pb, 0, none⟩) v.n v.n, .slice (some ⟨jb, 0, none⟩) v.m v.m] ∧ Box wp (yb) 43 #[.int .i64 fp, .int .i64 fa, .int .i64 fw, .int .i64 lg, .slice (some ⟨bq, 0, none⟩) nb nb]) := ⟨Mo.out.1.trans (HF2.out.below Mo.out.1.size (fun k hk e => by have h0 := HGG.out.2.2; have h1 := HLB.out; have h2 := HP7.out.2.2; have h3 := HBQ.out; omega)), Mo.out.2.1.fr HF2.out (fun e => HNB.out _ _ _ (by decide) Mo.out.2.1 e), Mo.out.2.2.1.fr HF2.out (fun e => HNB.out _ _ _ (by decide) Mo.out.2.2.1 e), Mo.out.2.2.2.1.fr HF2.out (fun e => HNB.out _ _ _ (by decide) Mo.out.2.2.2.1 e), Mo.out.2.2.2.2.fr HF2.out (fun e => HNB.out _ _ _ (by decide) Mo.out.2.2.2.2 e)⟩
  have Qp : Hid (VOwn w.heap.size 69 3 wp (.slice wa N wk) N (intF (prF v (stG v fp fa fw lg nb B)))) := Qo.out.1.fr HF2.out (fun g hg e => by have h0 := HL0.out g hg; have h9 := HGG.out.2.2; have h1 := HLB.out; have h2 := HP7.out.2.2; have h3 := HBQ.out; omega)
  have HSP : Hid (0 < N → gg < wp.heap.size) := fun h => Nat.lt_of_lt_of_le (HGG.out.2.1 h) HF2.out.size
  clear hW2 HF2 HNB Mo Qo hmk hnn hnd
  go_wp2_with fail
  refine (heldPartS60 ga N gk 1 gg 0 wp hN (by omega) HGG.out.1 HMK.out).mono ?_
  rintro e wq ⟨he, hwq⟩
  rw [HMM.out] at he
  subst he
  have hwq := hwq.symm
  subst hwq
  have hnn : ¬ ((mm : Int) < 0) := by omega
  have hnd : decide ((mm : Int) < 0) = false := by simp
  have zM : ((mm : Int) != (mm : Int)) = false := by simp
  have hD : Hid (Below w.heap.size w wp.drew ∧ Box wp.drew (w.heap.size) 25 #[.slice pa v.n pc, .slice ja v.m jc] ∧ Box wp.drew (w.heap.size + 1) 30 #[.int .i64 fp, .int .i64 fa, .int .i64 fw, .int .i64 lg, .slice ba nb bk] ∧ Box wp.drew (xb) 38 #[.slice (some ⟨pb, 0, none⟩) v.n v.n, .slice (some ⟨jb, 0, none⟩) v.m v.m] ∧ Box wp.drew (yb) 43 #[.int .i64 fp, .int .i64 fa, .int .i64 fw, .int .i64 lg, .slice (some ⟨bq, 0, none⟩) nb nb]) := ⟨Mp.out.1.drew, Mp.out.2.1.drew, Mp.out.2.2.1.drew, Mp.out.2.2.2.1.drew, Mp.out.2.2.2.2.drew⟩
  have hQD : Hid (VOwn w.heap.size 69 3 wp.drew (.slice wa N wk) N (intF (prF v (stG v fp fa fw lg nb B))) ∧ Below wp.heap.size wp wp.drew) := ⟨Qp.out, (Below.refl _ _).drew⟩
  have a0 : wp.cell? ⟨w.heap.size, 0, none⟩ = some (.slice pa v.n pc) := Mp.out.2.1.cell 0
  have a1 : wp.cell? ⟨w.heap.size, 1, none⟩ = some (.slice ja v.m jc) := Mp.out.2.1.cell 1
  have b0 : wp.cell? ⟨w.heap.size + 1, 0, none⟩ = some (.int .i64 fp) := Mp.out.2.2.1.cell 0
  have b1 : wp.cell? ⟨w.heap.size + 1, 1, none⟩ = some (.int .i64 fa) := Mp.out.2.2.1.cell 1
  have b2 : wp.cell? ⟨w.heap.size + 1, 2, none⟩ = some (.int .i64 fw) := Mp.out.2.2.1.cell 2
  have b3 : wp.cell? ⟨w.heap.size + 1, 3, none⟩ = some (.int .i64 lg) := Mp.out.2.2.1.cell 3
  have b4 : wp.cell? ⟨w.heap.size + 1, 4, none⟩ = some (.slice ba nb bk) := Mp.out.2.2.1.cell 4
  have p0 : wp.cell? ⟨xb, 0, none⟩ = some (.slice (some ⟨pb, 0, none⟩) v.n v.n) := Mp.out.2.2.2.1.cell 0
  have p1 : wp.cell? ⟨xb, 1, none⟩ = some (.slice (some ⟨jb, 0, none⟩) v.m v.m) := Mp.out.2.2.2.1.cell 1
  have q0 : wp.cell? ⟨yb, 0, none⟩ = some (.int .i64 fp) := Mp.out.2.2.2.2.cell 0
  have q1 : wp.cell? ⟨yb, 1, none⟩ = some (.int .i64 fa) := Mp.out.2.2.2.2.cell 1
  have q2 : wp.cell? ⟨yb, 2, none⟩ = some (.int .i64 fw) := Mp.out.2.2.2.2.cell 2
  have q3 : wp.cell? ⟨yb, 3, none⟩ = some (.int .i64 lg) := Mp.out.2.2.2.2.cell 3
  have q4 : wp.cell? ⟨yb, 4, none⟩ = some (.slice (some ⟨bq, 0, none⟩) nb nb) := Mp.out.2.2.2.2.cell 4
  go_wp2_with fail
  refine wp_region_held_drew (S := (fun wx : World => wx.cell? ⟨w.heap.size, 0, none⟩ = some (.slice pa v.n pc) ∧ wx.cell? ⟨w.heap.size, 1, none⟩ = some (.slice ja v.m jc) ∧ wx.cell? ⟨w.heap.size + 1, 0, none⟩ = some (.int .i64 fp) ∧ wx.cell? ⟨w.heap.size + 1, 1, none⟩ = some (.int .i64 fa) ∧ wx.cell? ⟨w.heap.size + 1, 2, none⟩ = some (.int .i64 fw) ∧ wx.cell? ⟨w.heap.size + 1, 3, none⟩ = some (.int .i64 lg) ∧ wx.cell? ⟨w.heap.size + 1, 4, none⟩ = some (.slice ba nb bk) ∧ wx.cell? ⟨xb, 0, none⟩ = some (.slice (some ⟨pb, 0, none⟩) v.n v.n) ∧ wx.cell? ⟨xb, 1, none⟩ = some (.slice (some ⟨jb, 0, none⟩) v.m v.m) ∧ wx.cell? ⟨yb, 0, none⟩ = some (.int .i64 fp) ∧ wx.cell? ⟨yb, 1, none⟩ = some (.int .i64 fa) ∧ wx.cell? ⟨yb, 2, none⟩ = some (.int .i64 fw) ∧ wx.cell? ⟨yb, 3, none⟩ = some (.int .i64 lg) ∧ wx.cell? ⟨yb, 4, none⟩ = some (.slice (some ⟨bq, 0, none⟩) nb nb))) (by kernel_rfl) ?_ (fun hHeld => ?_)
  · exact ⟨a0, a1, b0, b1, b2, b3, b4, p0, p1, q0, q1, q2, q3, q4⟩
  refine tk 0 ?_
  refine tk 2 ?_
  refine rl 1 fun K hK => ?_
  go_simp
  refine (toNetR pa pc ja jc _ hn1 hm1 (H.out.1.mono (Nat.le_refl _) hD.out.1 (Nat.le_refl _)) (H.out.2.1.mono (Nat.le_refl _) hD.out.1 (Nat.le_refl _)) HNE.out).mono ?_
  rintro e h1 ⟨pa1, ja1, rfl, hP3, hJ3, hb⟩
  have hM1 : Hid (Below w.heap.size w h1 ∧ Box h1 (w.heap.size) 25 #[.slice pa v.n pc, .slice ja v.m jc] ∧ Box h1 (w.heap.size + 1) 30 #[.int .i64 fp, .int .i64 fa, .int .i64 fw, .int .i64 lg, .slice ba nb bk] ∧ Box h1 (xb) 38 #[.slice (some ⟨pb, 0, none⟩) v.n v.n, .slice (some ⟨jb, 0, none⟩) v.m v.m] ∧ Box h1 (yb) 43 #[.int .i64 fp, .int .i64 fa, .int .i64 fw, .int .i64 lg, .slice (some ⟨bq, 0, none⟩) nb nb]) := ⟨hD.out.1.trans (hb.mono hD.out.1.size), hD.out.2.1.mono hb (Nat.le_refl _), hD.out.2.2.1.mono hb (Nat.le_refl _), hD.out.2.2.2.1.mono hb (Nat.le_refl _), hD.out.2.2.2.2.mono hb (Nat.le_refl _)⟩
  have hQ1 : Hid (VOwn w.heap.size 69 3 h1 (.slice wa N wk) N (intF (prF v (stG v fp fa fw lg nb B))) ∧ Below wp.heap.size wp h1) := ⟨hQD.out.1.mono (Nat.le_refl _) hb (Nat.le_refl _), hQD.out.2.trans (hb.mono hQD.out.2.size)⟩
  have hR1 : Hid (PsAt 0 h1 pa1 v.n v.P ∧ JsAt 0 h1 ja1 v.m v.J) := ⟨hP3, hJ3⟩
  clear hb hP3 hJ3
  go_wp2_with fail
  refine hK.out _ _ ?_ (fun hHeld1 => ?_)
  · exact ⟨hM1.out.2.1.cell 0, hM1.out.2.1.cell 1, hM1.out.2.2.1.cell 0, hM1.out.2.2.1.cell 1, hM1.out.2.2.1.cell 2, hM1.out.2.2.1.cell 3, hM1.out.2.2.1.cell 4, hM1.out.2.2.2.1.cell 0, hM1.out.2.2.2.1.cell 1, hM1.out.2.2.2.2.cell 0, hM1.out.2.2.2.2.cell 1, hM1.out.2.2.2.2.cell 2, hM1.out.2.2.2.2.cell 3, hM1.out.2.2.2.2.cell 4⟩
  clear hK K
  refine rl 3 fun K hK => ?_
  go_simp
  refine (toTrain16 fp fa fw lg nb B ba bk h1 hnb1 (H.out.2.2.1.mono (Nat.le_refl _) hM1.out.1 (Nat.le_refl _))).mono ?_
  rintro e h2 ⟨bn, rfl, hB4, hb⟩
  have hM2 : Hid (Below w.heap.size w h2 ∧ Box h2 (w.heap.size) 25 #[.slice pa v.n pc, .slice ja v.m jc] ∧ Box h2 (w.heap.size + 1) 30 #[.int .i64 fp, .int .i64 fa, .int .i64 fw, .int .i64 lg, .slice ba nb bk] ∧ Box h2 (xb) 38 #[.slice (some ⟨pb, 0, none⟩) v.n v.n, .slice (some ⟨jb, 0, none⟩) v.m v.m] ∧ Box h2 (yb) 43 #[.int .i64 fp, .int .i64 fa, .int .i64 fw, .int .i64 lg, .slice (some ⟨bq, 0, none⟩) nb nb]) := ⟨hM1.out.1.trans (hb.mono hM1.out.1.size), hM1.out.2.1.mono hb (Nat.le_refl _), hM1.out.2.2.1.mono hb (Nat.le_refl _), hM1.out.2.2.2.1.mono hb (Nat.le_refl _), hM1.out.2.2.2.2.mono hb (Nat.le_refl _)⟩
  have hQ2 : Hid (VOwn w.heap.size 69 3 h2 (.slice wa N wk) N (intF (prF v (stG v fp fa fw lg nb B))) ∧ Below wp.heap.size wp h2) := ⟨hQ1.out.1.mono (Nat.le_refl _) hb (Nat.le_refl _), hQ1.out.2.trans (hb.mono hQ1.out.2.size)⟩
  have hR2 : Hid (PsAt 0 h2 pa1 v.n v.P ∧ JsAt 0 h2 ja1 v.m v.J ∧ NsAt 2 0 h2 (some ⟨bn, 0, none⟩) nb B) := ⟨(hR1.out.1.mono (Nat.le_refl _) hb (Nat.le_refl _)), (hR1.out.2.mono (Nat.le_refl _) hb (Nat.le_refl _)), (hB4.keep (Nat.zero_le _) (Nat.le_refl _) fun _ _ _ => rfl)⟩
  clear hb hB4
  go_wp2_with fail
  refine hK.out _ _ ?_ (fun hHeld3 => ?_)
  · exact ⟨hM2.out.2.1.cell 0, hM2.out.2.1.cell 1, hM2.out.2.2.1.cell 0, hM2.out.2.2.1.cell 1, hM2.out.2.2.1.cell 2, hM2.out.2.2.1.cell 3, hM2.out.2.2.1.cell 4, hM2.out.2.2.2.1.cell 0, hM2.out.2.2.2.1.cell 1, hM2.out.2.2.2.2.cell 0, hM2.out.2.2.2.2.cell 1, hM2.out.2.2.2.2.cell 2, hM2.out.2.2.2.2.cell 3, hM2.out.2.2.2.2.cell 4⟩
  clear hK K
  refine rl 4 fun K hK => ?_
  go_simp
  refine (implBody10 pa1 v.n ja1 v.m fp fa fw lg nb B bn 0 nb h2 hn1 hm1 hnb1 (Nat.le_refl _) hn (Nat.le_refl _) hm hR2.out.1 hR2.out.2.1 H.out.2.2.2.1 HNE2.out hR2.out.2.2).mono ?_
  rintro e h3 ⟨ha, hk, he, ho, hb⟩
  rw [HR.out] at he ho
  subst he
  have hO : Hid (VOwn h2.heap.size 69 3 h3 (.slice ha N hk) N (intF (prF v (stG v fp fa fw lg nb B)))) := ho
  have hM3 : Hid (Below w.heap.size w h3 ∧ Box h3 (w.heap.size) 25 #[.slice pa v.n pc, .slice ja v.m jc] ∧ Box h3 (w.heap.size + 1) 30 #[.int .i64 fp, .int .i64 fa, .int .i64 fw, .int .i64 lg, .slice ba nb bk] ∧ Box h3 (xb) 38 #[.slice (some ⟨pb, 0, none⟩) v.n v.n, .slice (some ⟨jb, 0, none⟩) v.m v.m] ∧ Box h3 (yb) 43 #[.int .i64 fp, .int .i64 fa, .int .i64 fw, .int .i64 lg, .slice (some ⟨bq, 0, none⟩) nb nb]) := ⟨hM2.out.1.trans (hb.mono hM2.out.1.size), hM2.out.2.1.mono hb (Nat.le_refl _), hM2.out.2.2.1.mono hb (Nat.le_refl _), hM2.out.2.2.2.1.mono hb (Nat.le_refl _), hM2.out.2.2.2.2.mono hb (Nat.le_refl _)⟩
  have hQ3 : Hid (VOwn w.heap.size 69 3 h3 (.slice wa N wk) N (intF (prF v (stG v fp fa fw lg nb B))) ∧ Below wp.heap.size wp h3) := ⟨hQ2.out.1.mono (Nat.le_refl _) hb (Nat.le_refl _), hQ2.out.2.trans (hb.mono hQ2.out.2.size)⟩
  have hHS : Hid (w.heap.size ≤ h2.heap.size) := hM2.out.1.size
  clear hb ho
  go_wp2_with fail
  refine hK.out _ _ ?_ (fun hHeld4 => ?_)
  · exact ⟨hM3.out.2.1.cell 0, hM3.out.2.1.cell 1, hM3.out.2.2.1.cell 0, hM3.out.2.2.1.cell 1, hM3.out.2.2.1.cell 2, hM3.out.2.2.1.cell 3, hM3.out.2.2.1.cell 4, hM3.out.2.2.2.1.cell 0, hM3.out.2.2.2.1.cell 1, hM3.out.2.2.2.2.cell 0, hM3.out.2.2.2.2.cell 1, hM3.out.2.2.2.2.cell 2, hM3.out.2.2.2.2.cell 3, hM3.out.2.2.2.2.cell 4⟩
  clear hK K
  refine tk 5 ?_
  refine wpAnyH_done (by kernel_rfl) ?_ _
  clear a0 a1 b0 b1 b2 b3 b4 p0 p1 q0 q1 q2 q3 q4 hD hQD hM1 hM2 hQ1 hQ2 hR1 hR2 Mp Qp
  have HMS : Hid ((0 < N → gg < h3.heap.size) ∧ ∀ i, i < N → ∀ j, j < 3 → h3.cell? ⟨gg, 0 + i * 3 + j, none⟩ = some (.int .i64 ((1 + i * 3 + j : Nat) : Int))) := ⟨fun h => Nat.lt_of_lt_of_le (HSP.out h) hQ3.out.2.size, fun i hi j hj => cell_keep hQ3.out.2 (HSP.out (by omega)) (HMK.out i hi j hj)⟩
  go_wp2_with fail
  refine (eqPartS11 ha wa N hk wk (prF v (stG v fp fa fw lg nb B)) h3 hN (hO.out.vs.le (Nat.zero_le _)) (hQ3.out.1.vs.le (Nat.zero_le _))).mono ?_
  rintro e wt ⟨rfl, hb16⟩
  have HMT : Hid (Below w.heap.size w wt ∧ ∀ i, i < N → ∀ j, j < 3 → wt.cell? ⟨gg, 0 + i * 3 + j, none⟩ = some (.int .i64 ((1 + i * 3 + j : Nat) : Int))) := ⟨hM3.out.1.trans (hb16.mono hM3.out.1.size), fun i hi j hj => cell_keep hb16 (HMS.out.1 (by omega)) (HMS.out.2 i hi j hj)⟩
  clear hb16 HMS hM3 hQ3 hO hHS
  go_wp2_with fail
  refine (heldPartS60 ga N gk 1 gg 0 wt hN (by omega) HGG.out.1 HMT.out.2).mono ?_
  rintro e wu ⟨he, hwu⟩
  rw [HMM.out] at he
  subst he
  have hwu := hwu.symm
  subst hwu
  go_wp2_with fail
  go_ret
  exact ⟨rfl, HMT.out.1⟩

end Go.Proofs.YtoennemahlakeaaGreat
