import Derived.Test.YtoennemahlakeaaTu
import Derived.Test.YtoennemahlakeaaSz
import Derived.Test.YtoennemahlakeaaEq
namespace Go.Proofs.Ytoennemahlakeaa
open Go.RowKit Go.Lib

def NetR (w : World) (v : Nv) (e : Ending) (w' : World) : Prop := ∃ pa' ja', e = .returned (.agg #[.slice pa' v.n v.n, .slice ja' v.m v.m]) ∧ PsAt 0 w' pa' v.n v.P ∧ JsAt 0 w' ja' v.m v.J ∧ Below w.heap.size w w'
theorem toNetR {v : Nv} (pa : Option Addr) (pc : Nat) (ja : Option Addr) (jc : Nat) (w : World) (hn : v.n ≤ 1048576) (hm : v.m ≤ 1048576) (hP : PsAt 0 w pa v.n v.P) (hJ : JsAt 0 w ja v.m v.J) (hne : ∀ i, i < v.m → (v.J i).ne ≤ 1048576) :
    Calls Try.prog 9 #[.agg #[.slice pa v.n pc, .slice ja v.m jc]] w fun e w' => NetR w v e w' :=
  (toNet7 pa v.n pc v.P ja v.m jc v.J w hn hm hP hJ hne).mono fun _ _ ⟨_, _, he, h4, h5, h6⟩ => ⟨_, _, he, (h4.keep (Nat.zero_le _) (Nat.le_refl _) fun _ _ _ => rfl), (h5.keep (Nat.zero_le _) (Nat.le_refl _) fun _ _ _ => rfl), h6⟩
set_option maxRecDepth 100000 in
set_option maxHeartbeats 16000000 in
theorem law4 {v : Nv} (pa : Option Addr) (pc : Nat) (ja : Option Addr) (jc : Nat) (fp fa fw lg : Int) (nb : Nat) (B : Nat → Nat → Int) (ba : Option Addr) (bk : Nat) (w : World) (hn : v.n ≤ maxLen) (hm : v.m ≤ maxLen) (hl : nb ≤ maxLen) (hP : PsAt 0 w pa v.n v.P) (hJ : JsAt 0 w ja v.m v.J) (hps : ∀ i, i < v.n → (v.P i).nm.size ≤ maxLen) (hjs : ∀ i, i < v.m → (v.J i).nm.size ≤ maxLen ∧ (v.J i).ne ≤ maxLen) (hB : NsAt 2 0 w ba nb B) :
    Calls Try.prog 4 #[.agg #[.slice pa v.n pc, .slice ja v.m jc], .agg #[.int .i64 fp, .int .i64 fa, .int .i64 fw, .int .i64 lg, .slice ba nb bk]] w fun e w' => e = .returned (.bool true) ∧ Below w.heap.size w w' := by
  have H : Hid (PsAt 0 w pa v.n v.P ∧ JsAt 0 w ja v.m v.J ∧ NsAt 2 0 w ba nb B ∧ (∀ i, i < v.n → (v.P i).nm.size ≤ maxLen) ∧ (∀ i, i < v.m → (v.J i).nm.size ≤ maxLen ∧ (v.J i).ne ≤ maxLen)) := ⟨hP, hJ, hB, hps, hjs⟩
  have S0 : Hid (Below w.heap.size w ((w.alloc (.cells #[.slice pa v.n pc, .slice ja v.m jc] 25)).alloc (.cells #[.int .i64 fp, .int .i64 fa, .int .i64 fw, .int .i64 lg, .slice ba nb bk] 42)) ∧ Box ((w.alloc (.cells #[.slice pa v.n pc, .slice ja v.m jc] 25)).alloc (.cells #[.int .i64 fp, .int .i64 fa, .int .i64 fw, .int .i64 lg, .slice ba nb bk] 42)) (w.heap.size) 25 #[.slice pa v.n pc, .slice ja v.m jc] ∧ Box ((w.alloc (.cells #[.slice pa v.n pc, .slice ja v.m jc] 25)).alloc (.cells #[.int .i64 fp, .int .i64 fa, .int .i64 fw, .int .i64 lg, .slice ba nb bk] 42)) (w.heap.size + 1) 42 #[.int .i64 fp, .int .i64 fa, .int .i64 fw, .int .i64 lg, .slice ba nb bk]) := ⟨bel2 _ _ _, (Box.new _ _ _).alloc _, by have := Box.new (w.alloc (.cells #[.slice pa v.n pc, .slice ja v.m jc] 25)) 42 #[.int .i64 fp, .int .i64 fa, .int .i64 fw, .int .i64 lg, .slice ba nb bk]; simpa using this⟩
  clear hP hJ hB hps hjs
  go_enter Try.func4, Try.ntmps4
  go_upto_region 1 with fail
  generalize ((w.alloc (.cells #[.slice pa v.n pc, .slice ja v.m jc] 25)).alloc (.cells #[.int .i64 fp, .int .i64 fa, .int .i64 fw, .int .i64 lg, .slice ba nb bk] 42)) = V0 at S0 ⊢
  have a0 : V0.cell? ⟨w.heap.size, 0, none⟩ = some (.slice pa v.n pc) := S0.out.2.1.cell 0
  have a1 : V0.cell? ⟨w.heap.size, 1, none⟩ = some (.slice ja v.m jc) := S0.out.2.1.cell 1
  have b0 : V0.cell? ⟨w.heap.size + 1, 0, none⟩ = some (.int .i64 fp) := S0.out.2.2.cell 0
  have b1 : V0.cell? ⟨w.heap.size + 1, 1, none⟩ = some (.int .i64 fa) := S0.out.2.2.cell 1
  have b2 : V0.cell? ⟨w.heap.size + 1, 2, none⟩ = some (.int .i64 fw) := S0.out.2.2.cell 2
  have b3 : V0.cell? ⟨w.heap.size + 1, 3, none⟩ = some (.int .i64 lg) := S0.out.2.2.cell 3
  have b4 : V0.cell? ⟨w.heap.size + 1, 4, none⟩ = some (.slice ba nb bk) := S0.out.2.2.cell 4
  go_wp2_with fail
  clear a0 a1 b0 b1 b2 b3 b4
  refine (szNet5 pa v.n pc v.P ja v.m jc v.J 1048576 V0 hn hm (by omega) (by omega) (H.out.1.mono (Nat.le_refl _) S0.out.1 (Nat.le_refl _)) (H.out.2.1.mono (Nat.le_refl _) S0.out.1 (Nat.le_refl _)) H.out.2.2.2.1 H.out.2.2.2.2).mono ?_
  rintro e w1 ⟨r, rfl, hr1, hr2, hb1⟩
  have S1 : Hid (Below w.heap.size w w1 ∧ Box w1 (w.heap.size) 25 #[.slice pa v.n pc, .slice ja v.m jc] ∧ Box w1 (w.heap.size + 1) 42 #[.int .i64 fp, .int .i64 fa, .int .i64 fw, .int .i64 lg, .slice ba nb bk]) := ⟨S0.out.1.trans (hb1.mono S0.out.1.size), S0.out.2.1.mono hb1 (Nat.le_refl _), S0.out.2.2.mono hb1 (Nat.le_refl _)⟩
  clear hb1 S0
  by_cases hneg : r < 0
  · clear hr2
    go_wp2_with fail
    go_ret
    exact ⟨rfl, S1.out.1⟩
  obtain ⟨hn2, hm2, hne2⟩ := hr2 (by omega)
  have hn1 : v.n ≤ 1048576 := by omega
  have hm1 : v.m ≤ 1048576 := by omega
  have HNE : Hid (∀ i, i < v.m → (v.J i).ne ≤ 1048576) := fun i hi => by have := hne2 i hi; omega
  have HNE2 : Hid (∀ i, i < v.m → (v.J i).ne ≤ 1048576 ∧ (v.J i).nm.size ≤ maxLen) := fun i hi => ⟨HNE.out i hi, (H.out.2.2.2.2 i hi).1⟩
  clear hr2 hne2 hn2 hm2
  have a0 : w1.cell? ⟨w.heap.size, 0, none⟩ = some (.slice pa v.n pc) := S1.out.2.1.cell 0
  have a1 : w1.cell? ⟨w.heap.size, 1, none⟩ = some (.slice ja v.m jc) := S1.out.2.1.cell 1
  have b0 : w1.cell? ⟨w.heap.size + 1, 0, none⟩ = some (.int .i64 fp) := S1.out.2.2.cell 0
  have b1 : w1.cell? ⟨w.heap.size + 1, 1, none⟩ = some (.int .i64 fa) := S1.out.2.2.cell 1
  have b2 : w1.cell? ⟨w.heap.size + 1, 2, none⟩ = some (.int .i64 fw) := S1.out.2.2.cell 2
  have b3 : w1.cell? ⟨w.heap.size + 1, 3, none⟩ = some (.int .i64 lg) := S1.out.2.2.cell 3
  have b4 : w1.cell? ⟨w.heap.size + 1, 4, none⟩ = some (.slice ba nb bk) := S1.out.2.2.cell 4
  go_wp2_with fail
  clear a0 a1 b0 b1 b2 b3 b4
  refine (szTrain14 fp fa fw lg nb ba bk r w1 hl (by omega) (by omega)).mono ?_
  rintro e w2 ⟨r2, rfl, hs1, hs2, hb2⟩
  have S2 : Hid (Below w.heap.size w w2 ∧ Box w2 (w.heap.size) 25 #[.slice pa v.n pc, .slice ja v.m jc] ∧ Box w2 (w.heap.size + 1) 42 #[.int .i64 fp, .int .i64 fa, .int .i64 fw, .int .i64 lg, .slice ba nb bk]) := ⟨S1.out.1.trans (hb2.mono S1.out.1.size), S1.out.2.1.mono hb2 (Nat.le_refl _), S1.out.2.2.mono hb2 (Nat.le_refl _)⟩
  clear hb2 S1
  by_cases hneg2 : r2 < 0
  · clear hs2
    go_wp2_with fail
    go_ret
    exact ⟨rfl, S2.out.1⟩
  have hnb1 : nb ≤ 1048576 := by have := hs2 (by omega); omega
  clear hs2 hs1
  obtain ⟨R, HR⟩ : ∃ R, Hid (trainF v fp fa fw lg nb B = R) := ⟨_, rfl⟩
  have MD : Hid (Below w.heap.size w w2.drew ∧ Box w2.drew (w.heap.size) 25 #[.slice pa v.n pc, .slice ja v.m jc] ∧ Box w2.drew (w.heap.size + 1) 42 #[.int .i64 fp, .int .i64 fa, .int .i64 fw, .int .i64 lg, .slice ba nb bk]) := ⟨S2.out.1.drew, S2.out.2.1.drew, S2.out.2.2.drew⟩
  have a0 : w2.cell? ⟨w.heap.size, 0, none⟩ = some (.slice pa v.n pc) := S2.out.2.1.cell 0
  have a1 : w2.cell? ⟨w.heap.size, 1, none⟩ = some (.slice ja v.m jc) := S2.out.2.1.cell 1
  have b0 : w2.cell? ⟨w.heap.size + 1, 0, none⟩ = some (.int .i64 fp) := S2.out.2.2.cell 0
  have b1 : w2.cell? ⟨w.heap.size + 1, 1, none⟩ = some (.int .i64 fa) := S2.out.2.2.cell 1
  have b2 : w2.cell? ⟨w.heap.size + 1, 2, none⟩ = some (.int .i64 fw) := S2.out.2.2.cell 2
  have b3 : w2.cell? ⟨w.heap.size + 1, 3, none⟩ = some (.int .i64 lg) := S2.out.2.2.cell 3
  have b4 : w2.cell? ⟨w.heap.size + 1, 4, none⟩ = some (.slice ba nb bk) := S2.out.2.2.cell 4
  go_wp2_with fail
  refine wp_region_held_drew (S := (fun wx : World => wx.cell? ⟨w.heap.size, 0, none⟩ = some (.slice pa v.n pc) ∧ wx.cell? ⟨w.heap.size, 1, none⟩ = some (.slice ja v.m jc) ∧ wx.cell? ⟨w.heap.size + 1, 0, none⟩ = some (.int .i64 fp) ∧ wx.cell? ⟨w.heap.size + 1, 1, none⟩ = some (.int .i64 fa) ∧ wx.cell? ⟨w.heap.size + 1, 2, none⟩ = some (.int .i64 fw) ∧ wx.cell? ⟨w.heap.size + 1, 3, none⟩ = some (.int .i64 lg) ∧ wx.cell? ⟨w.heap.size + 1, 4, none⟩ = some (.slice ba nb bk))) (by kernel_rfl) ?_ (fun hHeld => ?_)
  · exact ⟨a0, a1, b0, b1, b2, b3, b4⟩
  refine tk 0 ?_
  refine tk 2 ?_
  refine rl 1 fun K hK => ?_
  go_simp
  refine (toNetR pa pc ja jc _ hn1 hm1 (H.out.1.mono (Nat.le_refl _) MD.out.1 (Nat.le_refl _)) (H.out.2.1.mono (Nat.le_refl _) MD.out.1 (Nat.le_refl _)) HNE.out).mono ?_
  rintro e w3 ⟨pa1, ja1, rfl, hP3, hJ3, hb3⟩
  have M3 : Hid (Below w.heap.size w w3 ∧ Box w3 (w.heap.size) 25 #[.slice pa v.n pc, .slice ja v.m jc] ∧ Box w3 (w.heap.size + 1) 42 #[.int .i64 fp, .int .i64 fa, .int .i64 fw, .int .i64 lg, .slice ba nb bk]) := ⟨MD.out.1.trans (hb3.mono MD.out.1.size), MD.out.2.1.mono hb3 (Nat.le_refl _), MD.out.2.2.mono hb3 (Nat.le_refl _)⟩
  have Q3 : Hid (PsAt 0 w3 pa1 v.n v.P ∧ JsAt 0 w3 ja1 v.m v.J) := ⟨hP3, hJ3⟩
  clear hb3 hP3 hJ3
  go_wp2_with fail
  refine hK.out _ _ ?_ (fun hHeld1 => ?_)
  · exact ⟨M3.out.2.1.cell 0, M3.out.2.1.cell 1, M3.out.2.2.cell 0, M3.out.2.2.cell 1, M3.out.2.2.cell 2, M3.out.2.2.cell 3, M3.out.2.2.cell 4⟩
  clear hK K
  refine rl 3 fun K hK => ?_
  go_simp
  refine (toTrain16 fp fa fw lg nb B ba bk w3 hnb1 (H.out.2.2.1.mono (Nat.le_refl _) M3.out.1 (Nat.le_refl _))).mono ?_
  rintro e w4 ⟨bn, rfl, hB4, hb4⟩
  have M4 : Hid (Below w.heap.size w w4 ∧ Box w4 (w.heap.size) 25 #[.slice pa v.n pc, .slice ja v.m jc] ∧ Box w4 (w.heap.size + 1) 42 #[.int .i64 fp, .int .i64 fa, .int .i64 fw, .int .i64 lg, .slice ba nb bk]) := ⟨M3.out.1.trans (hb4.mono M3.out.1.size), M3.out.2.1.mono hb4 (Nat.le_refl _), M3.out.2.2.mono hb4 (Nat.le_refl _)⟩
  have Q4 : Hid (PsAt 0 w4 pa1 v.n v.P ∧ JsAt 0 w4 ja1 v.m v.J ∧ NsAt 2 0 w4 (some ⟨bn, 0, none⟩) nb B) := ⟨(Q3.out.1.mono (Nat.le_refl _) hb4 (Nat.le_refl _)), (Q3.out.2.mono (Nat.le_refl _) hb4 (Nat.le_refl _)), (hB4.keep (Nat.zero_le _) (Nat.le_refl _) fun _ _ _ => rfl)⟩
  clear hb4 hB4
  go_wp2_with fail
  refine hK.out _ _ ?_ (fun hHeld3 => ?_)
  · exact ⟨M4.out.2.1.cell 0, M4.out.2.1.cell 1, M4.out.2.2.cell 0, M4.out.2.2.cell 1, M4.out.2.2.cell 2, M4.out.2.2.cell 3, M4.out.2.2.cell 4⟩
  clear hK K
  refine rl 4 fun K hK => ?_
  go_simp
  refine (specTrain15 pa1 v.n ja1 v.m fp fa fw lg nb B (some ⟨bn, 0, none⟩) nb w4 hn1 hm1 hnb1 Q4.out.1 Q4.out.2.1 H.out.2.2.2.1 HNE2.out Q4.out.2.2).mono ?_
  rw [HR.out]
  rintro e w5 ⟨rfl, hb5⟩
  have M5 : Hid (Below w.heap.size w w5 ∧ Box w5 (w.heap.size) 25 #[.slice pa v.n pc, .slice ja v.m jc] ∧ Box w5 (w.heap.size + 1) 42 #[.int .i64 fp, .int .i64 fa, .int .i64 fw, .int .i64 lg, .slice ba nb bk]) := ⟨M4.out.1.trans (hb5.mono M4.out.1.size), M4.out.2.1.mono hb5 (Nat.le_refl _), M4.out.2.2.mono hb5 (Nat.le_refl _)⟩
  clear hb5
  go_wp2_with fail
  refine hK.out _ _ ?_ (fun hHeld4 => ?_)
  · exact ⟨M5.out.2.1.cell 0, M5.out.2.1.cell 1, M5.out.2.2.cell 0, M5.out.2.2.cell 1, M5.out.2.2.cell 2, M5.out.2.2.cell 3, M5.out.2.2.cell 4⟩
  clear hK K
  refine tk 5 ?_
  refine wpAnyH_done (by kernel_rfl) ?_ _
  clear a0 a1 b0 b1 b2 b3 b4 MD M3 M4 Q3 Q4 S2
  have a0 : w5.cell? ⟨w.heap.size, 0, none⟩ = some (.slice pa v.n pc) := M5.out.2.1.cell 0
  have a1 : w5.cell? ⟨w.heap.size, 1, none⟩ = some (.slice ja v.m jc) := M5.out.2.1.cell 1
  have b0 : w5.cell? ⟨w.heap.size + 1, 0, none⟩ = some (.int .i64 fp) := M5.out.2.2.cell 0
  have b1 : w5.cell? ⟨w.heap.size + 1, 1, none⟩ = some (.int .i64 fa) := M5.out.2.2.cell 1
  have b2 : w5.cell? ⟨w.heap.size + 1, 2, none⟩ = some (.int .i64 fw) := M5.out.2.2.cell 2
  have b3 : w5.cell? ⟨w.heap.size + 1, 3, none⟩ = some (.int .i64 lg) := M5.out.2.2.cell 3
  have b4 : w5.cell? ⟨w.heap.size + 1, 4, none⟩ = some (.slice ba nb bk) := M5.out.2.2.cell 4
  go_wp2_with fail
  clear a0 a1 b0 b1 b2 b3 b4
  refine (toNetR pa pc ja jc w5 hn1 hm1 (H.out.1.mono (Nat.le_refl _) M5.out.1 (Nat.le_refl _)) (H.out.2.1.mono (Nat.le_refl _) M5.out.1 (Nat.le_refl _)) HNE.out).mono ?_
  rintro e w6 ⟨pa2, ja2, rfl, hP6, hJ6, hb6⟩
  have M6 : Hid (Below w.heap.size w w6 ∧ Box w6 (w.heap.size) 25 #[.slice pa v.n pc, .slice ja v.m jc] ∧ Box w6 (w.heap.size + 1) 42 #[.int .i64 fp, .int .i64 fa, .int .i64 fw, .int .i64 lg, .slice ba nb bk]) := ⟨M5.out.1.trans (hb6.mono M5.out.1.size), M5.out.2.1.mono hb6 (Nat.le_refl _), M5.out.2.2.mono hb6 (Nat.le_refl _)⟩
  have M7 : Hid (Below w.heap.size w (w6.alloc (.cells #[.slice pa2 v.n v.n, .slice ja2 v.m v.m] 32)) ∧ Box (w6.alloc (.cells #[.slice pa2 v.n v.n, .slice ja2 v.m v.m] 32)) (w.heap.size) 25 #[.slice pa v.n pc, .slice ja v.m jc] ∧ Box (w6.alloc (.cells #[.slice pa2 v.n v.n, .slice ja2 v.m v.m] 32)) (w.heap.size + 1) 42 #[.int .i64 fp, .int .i64 fa, .int .i64 fw, .int .i64 lg, .slice ba nb bk] ∧ Box (w6.alloc (.cells #[.slice pa2 v.n v.n, .slice ja2 v.m v.m] 32)) w6.heap.size 32 #[.slice pa2 v.n v.n, .slice ja2 v.m v.m]) := ⟨M6.out.1.alloc M6.out.1.size _, M6.out.2.1.alloc _, M6.out.2.2.alloc _, Box.new _ _ _⟩
  have Q7 : Hid (PsAt 0 (w6.alloc (.cells #[.slice pa2 v.n v.n, .slice ja2 v.m v.m] 32)) pa2 v.n v.P ∧ JsAt 0 (w6.alloc (.cells #[.slice pa2 v.n v.n, .slice ja2 v.m v.m] 32)) ja2 v.m v.J) := ⟨hP6.mono (Nat.le_refl _) (bel1 _ _) (Nat.le_refl _), hJ6.mono (Nat.le_refl _) (bel1 _ _) (Nat.le_refl _)⟩
  clear hb6 hP6 hJ6 M5 M6
  go_upto_region 10 with fail
  generalize w6.alloc (.cells #[.slice pa2 v.n v.n, .slice ja2 v.m v.m] 32) = V7 at M7 Q7 ⊢
  generalize w6.heap.size = xb at M7 ⊢
  have a0 : V7.cell? ⟨w.heap.size, 0, none⟩ = some (.slice pa v.n pc) := M7.out.2.1.cell 0
  have a1 : V7.cell? ⟨w.heap.size, 1, none⟩ = some (.slice ja v.m jc) := M7.out.2.1.cell 1
  have b0 : V7.cell? ⟨w.heap.size + 1, 0, none⟩ = some (.int .i64 fp) := M7.out.2.2.1.cell 0
  have b1 : V7.cell? ⟨w.heap.size + 1, 1, none⟩ = some (.int .i64 fa) := M7.out.2.2.1.cell 1
  have b2 : V7.cell? ⟨w.heap.size + 1, 2, none⟩ = some (.int .i64 fw) := M7.out.2.2.1.cell 2
  have b3 : V7.cell? ⟨w.heap.size + 1, 3, none⟩ = some (.int .i64 lg) := M7.out.2.2.1.cell 3
  have b4 : V7.cell? ⟨w.heap.size + 1, 4, none⟩ = some (.slice ba nb bk) := M7.out.2.2.1.cell 4
  have c0 : V7.cell? ⟨xb, 0, none⟩ = some (.slice pa2 v.n v.n) := M7.out.2.2.2.cell 0
  have c1 : V7.cell? ⟨xb, 1, none⟩ = some (.slice ja2 v.m v.m) := M7.out.2.2.2.cell 1
  go_wp2_with fail
  clear a0 a1 b0 b1 b2 b3 b4 c0 c1
  refine (toTrain16 fp fa fw lg nb B ba bk V7 hnb1 (H.out.2.2.1.mono (Nat.le_refl _) M7.out.1 (Nat.le_refl _))).mono ?_
  rintro e w8 ⟨bq, rfl, hB8, hb8⟩
  have M8 : Hid (Below w.heap.size w w8 ∧ Box w8 (w.heap.size) 25 #[.slice pa v.n pc, .slice ja v.m jc] ∧ Box w8 (w.heap.size + 1) 42 #[.int .i64 fp, .int .i64 fa, .int .i64 fw, .int .i64 lg, .slice ba nb bk] ∧ Box w8 (xb) 32 #[.slice pa2 v.n v.n, .slice ja2 v.m v.m]) := ⟨M7.out.1.trans (hb8.mono M7.out.1.size), M7.out.2.1.mono hb8 (Nat.le_refl _), M7.out.2.2.1.mono hb8 (Nat.le_refl _), M7.out.2.2.2.mono hb8 (Nat.le_refl _)⟩
  have M9 : Hid (Below w.heap.size w (w8.alloc (.cells #[.int .i64 fp, .int .i64 fa, .int .i64 fw, .int .i64 lg, .slice (some ⟨bq, 0, none⟩) nb nb] 48)) ∧ Box (w8.alloc (.cells #[.int .i64 fp, .int .i64 fa, .int .i64 fw, .int .i64 lg, .slice (some ⟨bq, 0, none⟩) nb nb] 48)) (w.heap.size) 25 #[.slice pa v.n pc, .slice ja v.m jc] ∧ Box (w8.alloc (.cells #[.int .i64 fp, .int .i64 fa, .int .i64 fw, .int .i64 lg, .slice (some ⟨bq, 0, none⟩) nb nb] 48)) (w.heap.size + 1) 42 #[.int .i64 fp, .int .i64 fa, .int .i64 fw, .int .i64 lg, .slice ba nb bk] ∧ Box (w8.alloc (.cells #[.int .i64 fp, .int .i64 fa, .int .i64 fw, .int .i64 lg, .slice (some ⟨bq, 0, none⟩) nb nb] 48)) (xb) 32 #[.slice pa2 v.n v.n, .slice ja2 v.m v.m] ∧ Box (w8.alloc (.cells #[.int .i64 fp, .int .i64 fa, .int .i64 fw, .int .i64 lg, .slice (some ⟨bq, 0, none⟩) nb nb] 48)) w8.heap.size 48 #[.int .i64 fp, .int .i64 fa, .int .i64 fw, .int .i64 lg, .slice (some ⟨bq, 0, none⟩) nb nb]) := ⟨M8.out.1.alloc M8.out.1.size _, M8.out.2.1.alloc _, M8.out.2.2.1.alloc _, M8.out.2.2.2.alloc _, Box.new _ _ _⟩
  have Q9 : Hid (PsAt 0 (w8.alloc (.cells #[.int .i64 fp, .int .i64 fa, .int .i64 fw, .int .i64 lg, .slice (some ⟨bq, 0, none⟩) nb nb] 48)) pa2 v.n v.P ∧ JsAt 0 (w8.alloc (.cells #[.int .i64 fp, .int .i64 fa, .int .i64 fw, .int .i64 lg, .slice (some ⟨bq, 0, none⟩) nb nb] 48)) ja2 v.m v.J ∧ NsAt 2 0 (w8.alloc (.cells #[.int .i64 fp, .int .i64 fa, .int .i64 fw, .int .i64 lg, .slice (some ⟨bq, 0, none⟩) nb nb] 48)) (some ⟨bq, 0, none⟩) nb B) := ⟨(Q7.out.1.mono (Nat.le_refl _) hb8 (Nat.le_refl _)).mono (Nat.le_refl _) (bel1 _ _) (Nat.le_refl _), (Q7.out.2.mono (Nat.le_refl _) hb8 (Nat.le_refl _)).mono (Nat.le_refl _) (bel1 _ _) (Nat.le_refl _), hB8.mono (Nat.zero_le _) (bel1 _ _) (Nat.le_refl _)⟩
  clear hb8 hB8 M7 M8 Q7
  go_upto_region 11 with fail
  generalize w8.alloc (.cells #[.int .i64 fp, .int .i64 fa, .int .i64 fw, .int .i64 lg, .slice (some ⟨bq, 0, none⟩) nb nb] 48) = V9 at M9 Q9 ⊢
  generalize w8.heap.size = yb at M9 ⊢
  have a0 : V9.cell? ⟨w.heap.size, 0, none⟩ = some (.slice pa v.n pc) := M9.out.2.1.cell 0
  have a1 : V9.cell? ⟨w.heap.size, 1, none⟩ = some (.slice ja v.m jc) := M9.out.2.1.cell 1
  have b0 : V9.cell? ⟨w.heap.size + 1, 0, none⟩ = some (.int .i64 fp) := M9.out.2.2.1.cell 0
  have b1 : V9.cell? ⟨w.heap.size + 1, 1, none⟩ = some (.int .i64 fa) := M9.out.2.2.1.cell 1
  have b2 : V9.cell? ⟨w.heap.size + 1, 2, none⟩ = some (.int .i64 fw) := M9.out.2.2.1.cell 2
  have b3 : V9.cell? ⟨w.heap.size + 1, 3, none⟩ = some (.int .i64 lg) := M9.out.2.2.1.cell 3
  have b4 : V9.cell? ⟨w.heap.size + 1, 4, none⟩ = some (.slice ba nb bk) := M9.out.2.2.1.cell 4
  have c0 : V9.cell? ⟨xb, 0, none⟩ = some (.slice pa2 v.n v.n) := M9.out.2.2.2.1.cell 0
  have c1 : V9.cell? ⟨xb, 1, none⟩ = some (.slice ja2 v.m v.m) := M9.out.2.2.2.1.cell 1
  have d0 : V9.cell? ⟨yb, 0, none⟩ = some (.int .i64 fp) := M9.out.2.2.2.2.cell 0
  have d1 : V9.cell? ⟨yb, 1, none⟩ = some (.int .i64 fa) := M9.out.2.2.2.2.cell 1
  have d2 : V9.cell? ⟨yb, 2, none⟩ = some (.int .i64 fw) := M9.out.2.2.2.2.cell 2
  have d3 : V9.cell? ⟨yb, 3, none⟩ = some (.int .i64 lg) := M9.out.2.2.2.2.cell 3
  have d4 : V9.cell? ⟨yb, 4, none⟩ = some (.slice (some ⟨bq, 0, none⟩) nb nb) := M9.out.2.2.2.2.cell 4
  go_wp2_with fail
  clear a0 a1 b0 b1 b2 b3 b4 c0 c1 d0 d1 d2 d3 d4
  refine (implTrain17 pa2 v.n ja2 v.m fp fa fw lg nb B (some ⟨bq, 0, none⟩) nb V9 hn1 hm1 hnb1 (Nat.le_refl _) hn (Nat.le_refl _) hm Q9.out.1 Q9.out.2.1 H.out.2.2.2.1 HNE2.out Q9.out.2.2).mono ?_
  rw [HR.out]
  rintro e w10 ⟨rfl, hb10⟩
  have M10 : Hid (Below w.heap.size w w10 ∧ Box w10 (w.heap.size) 25 #[.slice pa v.n pc, .slice ja v.m jc] ∧ Box w10 (w.heap.size + 1) 42 #[.int .i64 fp, .int .i64 fa, .int .i64 fw, .int .i64 lg, .slice ba nb bk] ∧ Box w10 (xb) 32 #[.slice pa2 v.n v.n, .slice ja2 v.m v.m] ∧ Box w10 (yb) 48 #[.int .i64 fp, .int .i64 fa, .int .i64 fw, .int .i64 lg, .slice (some ⟨bq, 0, none⟩) nb nb]) := ⟨M9.out.1.trans (hb10.mono M9.out.1.size), M9.out.2.1.mono hb10 (Nat.le_refl _), M9.out.2.2.1.mono hb10 (Nat.le_refl _), M9.out.2.2.2.1.mono hb10 (Nat.le_refl _), M9.out.2.2.2.2.mono hb10 (Nat.le_refl _)⟩
  have MD : Hid (Below w.heap.size w w10.drew ∧ Box w10.drew (w.heap.size) 25 #[.slice pa v.n pc, .slice ja v.m jc] ∧ Box w10.drew (w.heap.size + 1) 42 #[.int .i64 fp, .int .i64 fa, .int .i64 fw, .int .i64 lg, .slice ba nb bk] ∧ Box w10.drew (xb) 32 #[.slice pa2 v.n v.n, .slice ja2 v.m v.m] ∧ Box w10.drew (yb) 48 #[.int .i64 fp, .int .i64 fa, .int .i64 fw, .int .i64 lg, .slice (some ⟨bq, 0, none⟩) nb nb]) := ⟨M10.out.1.drew, M10.out.2.1.drew, M10.out.2.2.1.drew, M10.out.2.2.2.1.drew, M10.out.2.2.2.2.drew⟩
  have QD : Hid (PsAt 0 w10.drew pa2 v.n v.P ∧ JsAt 0 w10.drew ja2 v.m v.J ∧ NsAt 2 0 w10.drew (some ⟨bq, 0, none⟩) nb B) := ⟨(Q9.out.1.mono (Nat.le_refl _) hb10 (Nat.le_refl _)).mono (Nat.le_refl _) (Below.refl w10.heap.size w10).drew (Nat.le_refl _), (Q9.out.2.1.mono (Nat.le_refl _) hb10 (Nat.le_refl _)).mono (Nat.le_refl _) (Below.refl w10.heap.size w10).drew (Nat.le_refl _), (Q9.out.2.2.mono (Nat.le_refl _) hb10 (Nat.le_refl _)).mono (Nat.le_refl _) (Below.refl w10.heap.size w10).drew (Nat.le_refl _)⟩
  clear hb10 M9 Q9
  have zR : (R != R) = false := by simp
  have a0 : w10.cell? ⟨w.heap.size, 0, none⟩ = some (.slice pa v.n pc) := M10.out.2.1.cell 0
  have a1 : w10.cell? ⟨w.heap.size, 1, none⟩ = some (.slice ja v.m jc) := M10.out.2.1.cell 1
  have b0 : w10.cell? ⟨w.heap.size + 1, 0, none⟩ = some (.int .i64 fp) := M10.out.2.2.1.cell 0
  have b1 : w10.cell? ⟨w.heap.size + 1, 1, none⟩ = some (.int .i64 fa) := M10.out.2.2.1.cell 1
  have b2 : w10.cell? ⟨w.heap.size + 1, 2, none⟩ = some (.int .i64 fw) := M10.out.2.2.1.cell 2
  have b3 : w10.cell? ⟨w.heap.size + 1, 3, none⟩ = some (.int .i64 lg) := M10.out.2.2.1.cell 3
  have b4 : w10.cell? ⟨w.heap.size + 1, 4, none⟩ = some (.slice ba nb bk) := M10.out.2.2.1.cell 4
  have c0 : w10.cell? ⟨xb, 0, none⟩ = some (.slice pa2 v.n v.n) := M10.out.2.2.2.1.cell 0
  have c1 : w10.cell? ⟨xb, 1, none⟩ = some (.slice ja2 v.m v.m) := M10.out.2.2.2.1.cell 1
  have d0 : w10.cell? ⟨yb, 0, none⟩ = some (.int .i64 fp) := M10.out.2.2.2.2.cell 0
  have d1 : w10.cell? ⟨yb, 1, none⟩ = some (.int .i64 fa) := M10.out.2.2.2.2.cell 1
  have d2 : w10.cell? ⟨yb, 2, none⟩ = some (.int .i64 fw) := M10.out.2.2.2.2.cell 2
  have d3 : w10.cell? ⟨yb, 3, none⟩ = some (.int .i64 lg) := M10.out.2.2.2.2.cell 3
  have d4 : w10.cell? ⟨yb, 4, none⟩ = some (.slice (some ⟨bq, 0, none⟩) nb nb) := M10.out.2.2.2.2.cell 4
  go_wp2_with fail
  refine wp_region_held_drew (S := (fun wx : World => wx.cell? ⟨w.heap.size, 0, none⟩ = some (.slice pa v.n pc) ∧ wx.cell? ⟨w.heap.size, 1, none⟩ = some (.slice ja v.m jc) ∧ wx.cell? ⟨w.heap.size + 1, 0, none⟩ = some (.int .i64 fp) ∧ wx.cell? ⟨w.heap.size + 1, 1, none⟩ = some (.int .i64 fa) ∧ wx.cell? ⟨w.heap.size + 1, 2, none⟩ = some (.int .i64 fw) ∧ wx.cell? ⟨w.heap.size + 1, 3, none⟩ = some (.int .i64 lg) ∧ wx.cell? ⟨w.heap.size + 1, 4, none⟩ = some (.slice ba nb bk) ∧ wx.cell? ⟨xb, 0, none⟩ = some (.slice pa2 v.n v.n) ∧ wx.cell? ⟨xb, 1, none⟩ = some (.slice ja2 v.m v.m) ∧ wx.cell? ⟨yb, 0, none⟩ = some (.int .i64 fp) ∧ wx.cell? ⟨yb, 1, none⟩ = some (.int .i64 fa) ∧ wx.cell? ⟨yb, 2, none⟩ = some (.int .i64 fw) ∧ wx.cell? ⟨yb, 3, none⟩ = some (.int .i64 lg) ∧ wx.cell? ⟨yb, 4, none⟩ = some (.slice (some ⟨bq, 0, none⟩) nb nb))) (by kernel_rfl) ?_ (fun hHeld => ?_)
  · exact ⟨a0, a1, b0, b1, b2, b3, b4, c0, c1, d0, d1, d2, d3, d4⟩
  refine tk 0 ?_
  refine tk 1 ?_
  refine rl 2 fun K hK => ?_
  go_simp
  refine (toNetR pa pc ja jc _ hn1 hm1 (H.out.1.mono (Nat.le_refl _) MD.out.1 (Nat.le_refl _)) (H.out.2.1.mono (Nat.le_refl _) MD.out.1 (Nat.le_refl _)) HNE.out).mono ?_
  rintro e wa ⟨pa3, ja3, rfl, hPa, hJa, hba⟩
  have Ma : Hid (Below w.heap.size w wa ∧ Box wa (w.heap.size) 25 #[.slice pa v.n pc, .slice ja v.m jc] ∧ Box wa (w.heap.size + 1) 42 #[.int .i64 fp, .int .i64 fa, .int .i64 fw, .int .i64 lg, .slice ba nb bk] ∧ Box wa (xb) 32 #[.slice pa2 v.n v.n, .slice ja2 v.m v.m] ∧ Box wa (yb) 48 #[.int .i64 fp, .int .i64 fa, .int .i64 fw, .int .i64 lg, .slice (some ⟨bq, 0, none⟩) nb nb]) := ⟨MD.out.1.trans (hba.mono MD.out.1.size), MD.out.2.1.mono hba (Nat.le_refl _), MD.out.2.2.1.mono hba (Nat.le_refl _), MD.out.2.2.2.1.mono hba (Nat.le_refl _), MD.out.2.2.2.2.mono hba (Nat.le_refl _)⟩
  have Qa : Hid ((PsAt 0 wa pa3 v.n v.P ∧ JsAt 0 wa ja3 v.m v.J) ∧ PsAt 0 wa pa2 v.n v.P ∧ JsAt 0 wa ja2 v.m v.J ∧ NsAt 2 0 wa (some ⟨bq, 0, none⟩) nb B) := ⟨⟨hPa, hJa⟩, (QD.out.1.mono (Nat.le_refl _) hba (Nat.le_refl _)), (QD.out.2.1.mono (Nat.le_refl _) hba (Nat.le_refl _)), (QD.out.2.2.mono (Nat.le_refl _) hba (Nat.le_refl _))⟩
  clear hba hPa hJa
  go_wp2_with fail
  refine hK.out _ _ ?_ (fun hHeld2 => ?_)
  · exact ⟨Ma.out.2.1.cell 0, Ma.out.2.1.cell 1, Ma.out.2.2.1.cell 0, Ma.out.2.2.1.cell 1, Ma.out.2.2.1.cell 2, Ma.out.2.2.1.cell 3, Ma.out.2.2.1.cell 4, Ma.out.2.2.2.1.cell 0, Ma.out.2.2.2.1.cell 1, Ma.out.2.2.2.2.cell 0, Ma.out.2.2.2.2.cell 1, Ma.out.2.2.2.2.cell 2, Ma.out.2.2.2.2.cell 3, Ma.out.2.2.2.2.cell 4⟩
  clear hK K
  refine rl 3 fun K hK => ?_
  go_simp
  refine (eqNet10 pa2 pa3 v.n v.n v.n v.P ja2 ja3 v.m v.m v.m v.J wa hn1 hm1 Qa.out.2.1 Qa.out.1.1 Qa.out.2.2.1 Qa.out.1.2 HNE.out).mono ?_
  rintro e wb ⟨rfl, hbb⟩
  have Mb : Hid (Below w.heap.size w wb ∧ Box wb (w.heap.size) 25 #[.slice pa v.n pc, .slice ja v.m jc] ∧ Box wb (w.heap.size + 1) 42 #[.int .i64 fp, .int .i64 fa, .int .i64 fw, .int .i64 lg, .slice ba nb bk] ∧ Box wb (xb) 32 #[.slice pa2 v.n v.n, .slice ja2 v.m v.m] ∧ Box wb (yb) 48 #[.int .i64 fp, .int .i64 fa, .int .i64 fw, .int .i64 lg, .slice (some ⟨bq, 0, none⟩) nb nb]) := ⟨Ma.out.1.trans (hbb.mono Ma.out.1.size), Ma.out.2.1.mono hbb (Nat.le_refl _), Ma.out.2.2.1.mono hbb (Nat.le_refl _), Ma.out.2.2.2.1.mono hbb (Nat.le_refl _), Ma.out.2.2.2.2.mono hbb (Nat.le_refl _)⟩
  have Qb : Hid (NsAt 2 0 wb (some ⟨bq, 0, none⟩) nb B) := (Qa.out.2.2.2.mono (Nat.le_refl _) hbb (Nat.le_refl _))
  clear hbb
  go_wp2_with fail
  refine hK.out _ _ ?_ (fun hHeld3 => ?_)
  · exact ⟨Mb.out.2.1.cell 0, Mb.out.2.1.cell 1, Mb.out.2.2.1.cell 0, Mb.out.2.2.1.cell 1, Mb.out.2.2.1.cell 2, Mb.out.2.2.1.cell 3, Mb.out.2.2.1.cell 4, Mb.out.2.2.2.1.cell 0, Mb.out.2.2.2.1.cell 1, Mb.out.2.2.2.2.cell 0, Mb.out.2.2.2.2.cell 1, Mb.out.2.2.2.2.cell 2, Mb.out.2.2.2.2.cell 3, Mb.out.2.2.2.2.cell 4⟩
  clear hK K
  refine tk 4 ?_
  refine wpAnyH_done (by kernel_rfl) ?_ _
  clear a0 a1 b0 b1 b2 b3 b4 c0 c1 d0 d1 d2 d3 d4 MD QD Ma Qa M10
  have ME : Hid (Below w.heap.size w wb.drew ∧ Box wb.drew (w.heap.size) 25 #[.slice pa v.n pc, .slice ja v.m jc] ∧ Box wb.drew (w.heap.size + 1) 42 #[.int .i64 fp, .int .i64 fa, .int .i64 fw, .int .i64 lg, .slice ba nb bk] ∧ Box wb.drew (xb) 32 #[.slice pa2 v.n v.n, .slice ja2 v.m v.m] ∧ Box wb.drew (yb) 48 #[.int .i64 fp, .int .i64 fa, .int .i64 fw, .int .i64 lg, .slice (some ⟨bq, 0, none⟩) nb nb]) := ⟨Mb.out.1.drew, Mb.out.2.1.drew, Mb.out.2.2.1.drew, Mb.out.2.2.2.1.drew, Mb.out.2.2.2.2.drew⟩
  have QE : Hid (NsAt 2 0 wb.drew (some ⟨bq, 0, none⟩) nb B) := Qb.out.mono (Nat.le_refl _) (Below.refl wb.heap.size wb).drew (Nat.le_refl _)
  have a0 : wb.cell? ⟨w.heap.size, 0, none⟩ = some (.slice pa v.n pc) := Mb.out.2.1.cell 0
  have a1 : wb.cell? ⟨w.heap.size, 1, none⟩ = some (.slice ja v.m jc) := Mb.out.2.1.cell 1
  have b0 : wb.cell? ⟨w.heap.size + 1, 0, none⟩ = some (.int .i64 fp) := Mb.out.2.2.1.cell 0
  have b1 : wb.cell? ⟨w.heap.size + 1, 1, none⟩ = some (.int .i64 fa) := Mb.out.2.2.1.cell 1
  have b2 : wb.cell? ⟨w.heap.size + 1, 2, none⟩ = some (.int .i64 fw) := Mb.out.2.2.1.cell 2
  have b3 : wb.cell? ⟨w.heap.size + 1, 3, none⟩ = some (.int .i64 lg) := Mb.out.2.2.1.cell 3
  have b4 : wb.cell? ⟨w.heap.size + 1, 4, none⟩ = some (.slice ba nb bk) := Mb.out.2.2.1.cell 4
  have c0 : wb.cell? ⟨xb, 0, none⟩ = some (.slice pa2 v.n v.n) := Mb.out.2.2.2.1.cell 0
  have c1 : wb.cell? ⟨xb, 1, none⟩ = some (.slice ja2 v.m v.m) := Mb.out.2.2.2.1.cell 1
  have d0 : wb.cell? ⟨yb, 0, none⟩ = some (.int .i64 fp) := Mb.out.2.2.2.2.cell 0
  have d1 : wb.cell? ⟨yb, 1, none⟩ = some (.int .i64 fa) := Mb.out.2.2.2.2.cell 1
  have d2 : wb.cell? ⟨yb, 2, none⟩ = some (.int .i64 fw) := Mb.out.2.2.2.2.cell 2
  have d3 : wb.cell? ⟨yb, 3, none⟩ = some (.int .i64 lg) := Mb.out.2.2.2.2.cell 3
  have d4 : wb.cell? ⟨yb, 4, none⟩ = some (.slice (some ⟨bq, 0, none⟩) nb nb) := Mb.out.2.2.2.2.cell 4
  go_wp2_with fail
  refine wp_region_held_drew (S := (fun wx : World => wx.cell? ⟨w.heap.size, 0, none⟩ = some (.slice pa v.n pc) ∧ wx.cell? ⟨w.heap.size, 1, none⟩ = some (.slice ja v.m jc) ∧ wx.cell? ⟨w.heap.size + 1, 0, none⟩ = some (.int .i64 fp) ∧ wx.cell? ⟨w.heap.size + 1, 1, none⟩ = some (.int .i64 fa) ∧ wx.cell? ⟨w.heap.size + 1, 2, none⟩ = some (.int .i64 fw) ∧ wx.cell? ⟨w.heap.size + 1, 3, none⟩ = some (.int .i64 lg) ∧ wx.cell? ⟨w.heap.size + 1, 4, none⟩ = some (.slice ba nb bk) ∧ wx.cell? ⟨xb, 0, none⟩ = some (.slice pa2 v.n v.n) ∧ wx.cell? ⟨xb, 1, none⟩ = some (.slice ja2 v.m v.m) ∧ wx.cell? ⟨yb, 0, none⟩ = some (.int .i64 fp) ∧ wx.cell? ⟨yb, 1, none⟩ = some (.int .i64 fa) ∧ wx.cell? ⟨yb, 2, none⟩ = some (.int .i64 fw) ∧ wx.cell? ⟨yb, 3, none⟩ = some (.int .i64 lg) ∧ wx.cell? ⟨yb, 4, none⟩ = some (.slice (some ⟨bq, 0, none⟩) nb nb))) (by kernel_rfl) ?_ (fun hHeld => ?_)
  · exact ⟨a0, a1, b0, b1, b2, b3, b4, c0, c1, d0, d1, d2, d3, d4⟩
  refine tk 0 ?_
  refine tk 1 ?_
  refine rl 2 fun K hK => ?_
  go_simp
  refine (toTrain16 fp fa fw lg nb B ba bk _ hnb1 (H.out.2.2.1.mono (Nat.le_refl _) ME.out.1 (Nat.le_refl _))).mono ?_
  rintro e wc1 ⟨bz, rfl, hBc, hbc⟩
  have Mc : Hid (Below w.heap.size w wc1 ∧ Box wc1 (w.heap.size) 25 #[.slice pa v.n pc, .slice ja v.m jc] ∧ Box wc1 (w.heap.size + 1) 42 #[.int .i64 fp, .int .i64 fa, .int .i64 fw, .int .i64 lg, .slice ba nb bk] ∧ Box wc1 (xb) 32 #[.slice pa2 v.n v.n, .slice ja2 v.m v.m] ∧ Box wc1 (yb) 48 #[.int .i64 fp, .int .i64 fa, .int .i64 fw, .int .i64 lg, .slice (some ⟨bq, 0, none⟩) nb nb]) := ⟨ME.out.1.trans (hbc.mono ME.out.1.size), ME.out.2.1.mono hbc (Nat.le_refl _), ME.out.2.2.1.mono hbc (Nat.le_refl _), ME.out.2.2.2.1.mono hbc (Nat.le_refl _), ME.out.2.2.2.2.mono hbc (Nat.le_refl _)⟩
  have Qc : Hid (NsAt 2 0 wc1 (some ⟨bq, 0, none⟩) nb B ∧ NsAt 2 0 wc1 (some ⟨bz, 0, none⟩) nb B) := ⟨(QE.out.mono (Nat.le_refl _) hbc (Nat.le_refl _)), (hBc.keep (Nat.zero_le _) (Nat.le_refl _) fun _ _ _ => rfl)⟩
  clear hbc hBc
  go_wp2_with fail
  refine hK.out _ _ ?_ (fun hHeld2 => ?_)
  · exact ⟨Mc.out.2.1.cell 0, Mc.out.2.1.cell 1, Mc.out.2.2.1.cell 0, Mc.out.2.2.1.cell 1, Mc.out.2.2.1.cell 2, Mc.out.2.2.1.cell 3, Mc.out.2.2.1.cell 4, Mc.out.2.2.2.1.cell 0, Mc.out.2.2.2.1.cell 1, Mc.out.2.2.2.2.cell 0, Mc.out.2.2.2.2.cell 1, Mc.out.2.2.2.2.cell 2, Mc.out.2.2.2.2.cell 3, Mc.out.2.2.2.2.cell 4⟩
  clear hK K
  refine rl 3 fun K hK => ?_
  go_simp
  refine (eqTrain18 fp fa fw lg nb B (some ⟨bq, 0, none⟩) (some ⟨bz, 0, none⟩) nb nb wc1 hnb1 Qc.out.1 Qc.out.2).mono ?_
  rintro e wd ⟨rfl, hbd⟩
  have Md : Hid (Below w.heap.size w wd ∧ Box wd (w.heap.size) 25 #[.slice pa v.n pc, .slice ja v.m jc] ∧ Box wd (w.heap.size + 1) 42 #[.int .i64 fp, .int .i64 fa, .int .i64 fw, .int .i64 lg, .slice ba nb bk] ∧ Box wd (xb) 32 #[.slice pa2 v.n v.n, .slice ja2 v.m v.m] ∧ Box wd (yb) 48 #[.int .i64 fp, .int .i64 fa, .int .i64 fw, .int .i64 lg, .slice (some ⟨bq, 0, none⟩) nb nb]) := ⟨Mc.out.1.trans (hbd.mono Mc.out.1.size), Mc.out.2.1.mono hbd (Nat.le_refl _), Mc.out.2.2.1.mono hbd (Nat.le_refl _), Mc.out.2.2.2.1.mono hbd (Nat.le_refl _), Mc.out.2.2.2.2.mono hbd (Nat.le_refl _)⟩
  clear hbd
  go_wp2_with fail
  refine hK.out _ _ ?_ (fun hHeld3 => ?_)
  · exact ⟨Md.out.2.1.cell 0, Md.out.2.1.cell 1, Md.out.2.2.1.cell 0, Md.out.2.2.1.cell 1, Md.out.2.2.1.cell 2, Md.out.2.2.1.cell 3, Md.out.2.2.1.cell 4, Md.out.2.2.2.1.cell 0, Md.out.2.2.2.1.cell 1, Md.out.2.2.2.2.cell 0, Md.out.2.2.2.2.cell 1, Md.out.2.2.2.2.cell 2, Md.out.2.2.2.2.cell 3, Md.out.2.2.2.2.cell 4⟩
  clear hK K
  refine tk 4 ?_
  refine wpAnyH_done (by kernel_rfl) ?_ _
  have HE : Hid (Below w.heap.size w wd) := Md.out.1
  go_wp2_with fail
  go_ret
  exact ⟨rfl, HE.out⟩

end Go.Proofs.Ytoennemahlakeaa
