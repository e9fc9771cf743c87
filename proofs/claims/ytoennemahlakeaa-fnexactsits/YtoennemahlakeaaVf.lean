import Derived.Test.YtoennemahlakeaaVd
import Derived.Test.YtoennemahlakeaaTu
namespace Go.Proofs.Ytoennemahlakeaa
open Go.RowKit Go.Lib

def RoR (w : World) (v : Nv) (pa : Option Addr) (pc : Nat) (ja : Option Addr) (jc : Nat) (la : Option Addr) (nl lc : Nat) (e : Ending) (w' : World) : Prop := ∃ bt sb, e = .returned (.agg #[.pointer (some ⟨bt, 0, none⟩), .slice la nl lc]) ∧ TkAt w' bt sb v pa pc ja jc ∧ Below w.heap.size w w'
set_option maxHeartbeats 4000000 in
theorem railsOf48 {v : Nv} (ok : v.Ok) (pa : Option Addr) (pc : Nat) (ja : Option Addr) (jc : Nat) (la : Option Addr) (nl lc : Nat) (w : World) (hP : PsAt 0 w pa v.n v.P) (hJ : JsAt 0 w ja v.m v.J) :
    Calls Try.prog 48 #[.agg #[.slice pa v.n pc, .slice ja v.m jc], .slice la nl lc] w fun e w' => RoR w v pa pc ja jc la nl lc e w' := by
  have H : Hid (v.Ok ∧ PsAt 0 w pa v.n v.P ∧ JsAt 0 w ja v.m v.J) := ⟨ok, hP, hJ⟩
  have S0 : Hid (Below w.heap.size w ((w.alloc (.cells #[.slice pa v.n pc, .slice ja v.m jc] 32)).alloc (.cells #[.pointer none, .slice none 0 0] 89)) ∧ Box ((w.alloc (.cells #[.slice pa v.n pc, .slice ja v.m jc] 32)).alloc (.cells #[.pointer none, .slice none 0 0] 89)) (w.heap.size) 32 #[.slice pa v.n pc, .slice ja v.m jc] ∧ Box ((w.alloc (.cells #[.slice pa v.n pc, .slice ja v.m jc] 32)).alloc (.cells #[.pointer none, .slice none 0 0] 89)) (w.heap.size + 1) 89 #[.pointer none, .slice none 0 0]) := ⟨bel2 _ _ _, (Box.new _ _ _).alloc _, by have := Box.new (w.alloc (.cells #[.slice pa v.n pc, .slice ja v.m jc] 32)) 89 #[.pointer none, .slice none 0 0]; simpa using this⟩
  clear ok hP hJ
  go_enter Try.func48, Try.ntmps48
  go_upto_region 1 with fail
  generalize ((w.alloc (.cells #[.slice pa v.n pc, .slice ja v.m jc] 32)).alloc (.cells #[.pointer none, .slice none 0 0] 89)) = V0 at S0 ⊢
  have a0 : V0.cell? ⟨w.heap.size, 0, none⟩ = some (.slice pa v.n pc) := S0.out.2.1.cell 0
  have a1 : V0.cell? ⟨w.heap.size, 1, none⟩ = some (.slice ja v.m jc) := S0.out.2.1.cell 1
  have b0 : V0.cell? ⟨w.heap.size + 1, 0, none⟩ = some (.pointer none) := S0.out.2.2.cell 0
  have b1 : V0.cell? ⟨w.heap.size + 1, 1, none⟩ = some (.slice none 0 0) := S0.out.2.2.cell 1
  go_wp2_with fail
  clear a0 a1 b0 b1
  refine (trackOf68 H.out.1 (pc := pc) (jc := jc) V0 (H.out.2.1.mono (Nat.le_refl _) S0.out.1 (Nat.le_refl _)) (H.out.2.2.mono (Nat.le_refl _) S0.out.1 (Nat.le_refl _))).mono ?_
  rintro e w1 ⟨bt, sb, rfl, hTK, hbt, hsb, hb1⟩
  have M1 : Hid (Below w.heap.size w w1 ∧ Box w1 (w.heap.size) 32 #[.slice pa v.n pc, .slice ja v.m jc] ∧ Box w1 (w.heap.size + 1) 89 #[.pointer none, .slice none 0 0]) := ⟨S0.out.1.trans (hb1.mono S0.out.1.size), S0.out.2.1.mono hb1 (Nat.le_refl _), S0.out.2.2.mono hb1 (Nat.le_refl _)⟩
  have K1 : Hid (TkAt w1 bt sb v pa pc ja jc ∧ w.heap.size + 1 ≠ bt ∧ w.heap.size + 1 ≠ sb) := ⟨hTK, by have := S0.out.2.2.lt; omega, by have := S0.out.2.2.lt; omega⟩
  clear hb1 hTK hbt hsb S0
  have MF : Hid ((Below w.heap.size w ((w1.setCell ⟨w.heap.size + 1, 0, none⟩ (.pointer (some ⟨bt, 0, none⟩))).setCell ⟨w.heap.size + 1, 1, none⟩ (.slice la nl lc)) ∧ Box ((w1.setCell ⟨w.heap.size + 1, 0, none⟩ (.pointer (some ⟨bt, 0, none⟩))).setCell ⟨w.heap.size + 1, 1, none⟩ (.slice la nl lc)) (w.heap.size + 1) 89 #[.pointer (some ⟨bt, 0, none⟩), .slice la nl lc]) ∧ TkAt ((w1.setCell ⟨w.heap.size + 1, 0, none⟩ (.pointer (some ⟨bt, 0, none⟩))).setCell ⟨w.heap.size + 1, 1, none⟩ (.slice la nl lc)) bt sb v pa pc ja jc) := ⟨⟨(M1.out.1.setCell (Nat.le_add_right _ 1) _).setCell (Nat.le_add_right _ 1) _, by
    have h9 := (M1.out.2.2.set 0 (.pointer (some ⟨bt, 0, none⟩))).set 1 (.slice la nl lc)
    exact h9⟩, (K1.out.1.set K1.out.2.1 K1.out.2.2 (Nat.le_add_right _ 1) M1.out.1 H.out.2.1 H.out.2.2).set K1.out.2.1 K1.out.2.2 (Nat.le_add_right _ 1) (M1.out.1.setCell (Nat.le_add_right _ 1) _) H.out.2.1 H.out.2.2⟩
  have z0 : w1.cell? ⟨w.heap.size + 1, 0, none⟩ = some (.pointer none) := M1.out.2.2.cell 0
  have z1 : w1.cell? ⟨w.heap.size + 1, 1, none⟩ = some (.slice none 0 0) := M1.out.2.2.cell 1
  have q0 := M1.out.2.2.free 0
  have q1 := M1.out.2.2.free 1
  go_wp2_with fail
  generalize ((w1.setCell ⟨w.heap.size + 1, 0, none⟩ (.pointer (some ⟨bt, 0, none⟩))).setCell ⟨w.heap.size + 1, 1, none⟩ (.slice la nl lc)) = W9 at MF ⊢
  clear z0 z1 q0 q1
  have z0 : W9.cell? ⟨w.heap.size + 1, 0, none⟩ = some (.pointer (some ⟨bt, 0, none⟩)) := MF.out.1.2.cell 0
  have z1 : W9.cell? ⟨w.heap.size + 1, 1, none⟩ = some (.slice la nl lc) := MF.out.1.2.cell 1
  exact bodyPost_ret (v := .agg #[.pointer (some ⟨bt, 0, none⟩), .slice la nl lc]) (by simp [results, Try.results48, go_sem, z0, z1]) rfl ⟨bt, sb, rfl, MF.out.2, MF.out.1.1⟩
/-- a train sits as the switches lie -/
def sitsF (v : Nv) (nl : Nat) (L : Nat → Int) (fp fa fw lg : Int) (nb : Nat) (B : Nat → Nat → Int) : Bool := (liesF v.n v.P v.m v.J nl L && trainF v fp fa fw lg nb B) && railedB v L fp fw nb B
theorem trn_parts {v : Nv} {fp fa fw lg : Int} {nb : Nat} {B : Nat → Nat → Int} (h : trainF v fp fa fw lg nb B = true) : v.Ok ∧ spotB v fp fa fw = true ∧ nb ≤ 200 ∧ ∀ i, i < nb → stepB v (B i 0) (B i 1) = true := by
  rw [trainF, Bool.and_eq_true, decide_eq_true_eq, trnB, Bool.and_eq_true, Bool.and_eq_true, Bool.and_eq_true, Bool.and_eq_true, decide_eq_true_eq] at h
  obtain ⟨h1, ⟨⟨h2, _⟩, h3⟩, h4, _⟩ := h
  exact ⟨nvOk h1, h2, h3, fun i hi => by
    have := allT_at h4 i hi
    rw [bkB, Bool.and_eq_true] at this
    exact this.1⟩
theorem lies_parts {v : Nv} {nl : Nat} {L : Nat → Int} (h : liesF v.n v.P v.m v.J nl L = true) : nl = v.m ∧ ∀ i, i < v.m → lieB v.J L i = true := by
  rw [liesF, Bool.and_eq_true, liesB, Bool.and_eq_true] at h
  refine ⟨of_decide_eq_true h.2.1, fun i hi => ?_⟩
  cases c : lieB v.J L i with
  | true => rfl
  | false => exact absurd h.2.2 (by rw [allL_no hi c]; decide)
set_option maxRecDepth 100000 in
set_option maxHeartbeats 8000000 in
theorem implSits23 {v : Nv} (pa : Option Addr) (pc : Nat) (ja : Option Addr) (jc : Nat) (fp fa fw lg : Int) (nb : Nat) (B : Nat → Nat → Int) (ba : Option Addr) (bk : Nat) (la : Option Addr) (nl lc : Nat) (L : Nat → Int) (w : World) (hn : v.n ≤ 1048576) (hm : v.m ≤ 1048576) (hnb : nb ≤ 1048576) (hnl : nl ≤ 1048576) (hpc : v.n ≤ pc) (hpm : pc ≤ maxLen) (hjc : v.m ≤ jc) (hjm : jc ≤ maxLen) (hP : PsAt 0 w pa v.n v.P) (hJ : JsAt 0 w ja v.m v.J) (hps : ∀ i, i < v.n → (v.P i).nm.size ≤ maxLen) (hjs : ∀ i, i < v.m → (v.J i).ne ≤ 1048576 ∧ (v.J i).nm.size ≤ maxLen) (hB : NsAt 2 0 w ba nb B) (hL : IsAt 0 w la nl L) :
    Calls Try.prog 23 #[.agg #[.slice pa v.n pc, .slice ja v.m jc], .slice la nl lc, .agg #[.int .i64 fp, .int .i64 fa, .int .i64 fw, .int .i64 lg, .slice ba nb bk]] w fun e w' => e = .returned (.bool (sitsF v nl L fp fa fw lg nb B)) ∧ Below w.heap.size w w' := by
  have H : Hid (PsAt 0 w pa v.n v.P ∧ JsAt 0 w ja v.m v.J ∧ (∀ i, i < v.n → (v.P i).nm.size ≤ maxLen) ∧ (∀ i, i < v.m → (v.J i).ne ≤ 1048576 ∧ (v.J i).nm.size ≤ maxLen) ∧ NsAt 2 0 w ba nb B ∧ IsAt 0 w la nl L) := ⟨hP, hJ, hps, hjs, hB, hL⟩
  have S0 : Hid (Below w.heap.size w ((w.alloc (.cells #[.slice pa v.n pc, .slice ja v.m jc] 32)).alloc (.cells #[.int .i64 fp, .int .i64 fa, .int .i64 fw, .int .i64 lg, .slice ba nb bk] 48)) ∧ Box ((w.alloc (.cells #[.slice pa v.n pc, .slice ja v.m jc] 32)).alloc (.cells #[.int .i64 fp, .int .i64 fa, .int .i64 fw, .int .i64 lg, .slice ba nb bk] 48)) (w.heap.size) 32 #[.slice pa v.n pc, .slice ja v.m jc] ∧ Box ((w.alloc (.cells #[.slice pa v.n pc, .slice ja v.m jc] 32)).alloc (.cells #[.int .i64 fp, .int .i64 fa, .int .i64 fw, .int .i64 lg, .slice ba nb bk] 48)) (w.heap.size + 1) 48 #[.int .i64 fp, .int .i64 fa, .int .i64 fw, .int .i64 lg, .slice ba nb bk]) := ⟨bel2 _ _ _, (Box.new _ _ _).alloc _, by have := Box.new (w.alloc (.cells #[.slice pa v.n pc, .slice ja v.m jc] 32)) 48 #[.int .i64 fp, .int .i64 fa, .int .i64 fw, .int .i64 lg, .slice ba nb bk]; simpa using this⟩
  clear hP hJ hps hjs hB hL
  obtain ⟨R, HR⟩ : ∃ R, Hid (sitsF v nl L fp fa fw lg nb B = R) := ⟨_, rfl⟩
  rw [HR.out]
  obtain ⟨u, HU⟩ : ∃ u, Hid (liesF v.n v.P v.m v.J nl L = u) := ⟨_, rfl⟩
  obtain ⟨u2, HU2⟩ : ∃ u, Hid (trainF v fp fa fw lg nb B = u) := ⟨_, rfl⟩
  go_enter Try.func23, Try.ntmps23
  go_upto_region 1 with fail
  generalize ((w.alloc (.cells #[.slice pa v.n pc, .slice ja v.m jc] 32)).alloc (.cells #[.int .i64 fp, .int .i64 fa, .int .i64 fw, .int .i64 lg, .slice ba nb bk] 48)) = V0 at S0 ⊢
  have MD : Hid (Below w.heap.size w V0.drew ∧ Box V0.drew (w.heap.size) 32 #[.slice pa v.n pc, .slice ja v.m jc] ∧ Box V0.drew (w.heap.size + 1) 48 #[.int .i64 fp, .int .i64 fa, .int .i64 fw, .int .i64 lg, .slice ba nb bk]) := ⟨S0.out.1.drew, S0.out.2.1.drew, S0.out.2.2.drew⟩
  have a0 : V0.cell? ⟨w.heap.size, 0, none⟩ = some (.slice pa v.n pc) := S0.out.2.1.cell 0
  have a1 : V0.cell? ⟨w.heap.size, 1, none⟩ = some (.slice ja v.m jc) := S0.out.2.1.cell 1
  have b0 : V0.cell? ⟨w.heap.size + 1, 0, none⟩ = some (.int .i64 fp) := S0.out.2.2.cell 0
  have b1 : V0.cell? ⟨w.heap.size + 1, 1, none⟩ = some (.int .i64 fa) := S0.out.2.2.cell 1
  have b2 : V0.cell? ⟨w.heap.size + 1, 2, none⟩ = some (.int .i64 fw) := S0.out.2.2.cell 2
  have b3 : V0.cell? ⟨w.heap.size + 1, 3, none⟩ = some (.int .i64 lg) := S0.out.2.2.cell 3
  have b4 : V0.cell? ⟨w.heap.size + 1, 4, none⟩ = some (.slice ba nb bk) := S0.out.2.2.cell 4
  go_wp2_with fail
  refine wp_region_held_drew (S := (fun wx : World => wx.cell? ⟨w.heap.size, 0, none⟩ = some (.slice pa v.n pc) ∧ wx.cell? ⟨w.heap.size, 1, none⟩ = some (.slice ja v.m jc) ∧ wx.cell? ⟨w.heap.size + 1, 0, none⟩ = some (.int .i64 fp) ∧ wx.cell? ⟨w.heap.size + 1, 1, none⟩ = some (.int .i64 fa) ∧ wx.cell? ⟨w.heap.size + 1, 2, none⟩ = some (.int .i64 fw) ∧ wx.cell? ⟨w.heap.size + 1, 3, none⟩ = some (.int .i64 lg) ∧ wx.cell? ⟨w.heap.size + 1, 4, none⟩ = some (.slice ba nb bk))) (by kernel_rfl) ?_ (fun hHeld => ?_)
  · exact ⟨a0, a1, b0, b1, b2, b3, b4⟩
  refine tk 0 ?_
  refine tk 1 ?_
  refine rl 2 fun K hK => ?_
  go_simp
  refine (impl11 pa v.n pc v.P ja v.m jc v.J la nl lc L _ hn hm hnl hpc hpm hjc hjm (H.out.1.mono (Nat.le_refl _) MD.out.1 (Nat.le_refl _)) (H.out.2.1.mono (Nat.le_refl _) MD.out.1 (Nat.le_refl _)) H.out.2.2.1 H.out.2.2.2.1 (H.out.2.2.2.2.2.mono (Nat.le_refl _) MD.out.1 (Nat.le_refl _))).mono ?_
  rintro e w1 ⟨he, hb1⟩
  have M1 : Hid (Below w.heap.size w w1 ∧ Box w1 (w.heap.size) 32 #[.slice pa v.n pc, .slice ja v.m jc] ∧ Box w1 (w.heap.size + 1) 48 #[.int .i64 fp, .int .i64 fa, .int .i64 fw, .int .i64 lg, .slice ba nb bk]) := ⟨MD.out.1.trans (hb1.mono MD.out.1.size), MD.out.2.1.mono hb1 (Nat.le_refl _), MD.out.2.2.mono hb1 (Nat.le_refl _)⟩
  clear hb1
  rw [HU.out] at he
  subst he
  go_wp2_with fail
  refine hK.out _ _ ?_ (fun hHeld2 => ?_)
  · exact ⟨M1.out.2.1.cell 0, M1.out.2.1.cell 1, M1.out.2.2.cell 0, M1.out.2.2.cell 1, M1.out.2.2.cell 2, M1.out.2.2.cell 3, M1.out.2.2.cell 4⟩
  clear hK K
  cases u with
  | false =>
    have HT : Hid (R = false) := HR.out.symm.trans (by rw [sitsF, HU.out]; rfl)
    refine tk 3 ?_
    refine tf 4 ?_
    refine tf 5 ?_
    refine tf 6 ?_
    refine tk 7 ?_
    refine tk 8 ?_
    refine tf 9 ?_
    refine tf 10 ?_
    refine tf 11 ?_
    refine tf 12 ?_
    refine tf 13 ?_
    refine tf 14 ?_
    refine tf 15 ?_
    refine tk 16 ?_
    refine tk 17 ?_
    refine wpAnyH_done (by kernel_rfl) ?_ _
    have HE : Hid (Below w.heap.size w w1) := M1.out.1
    go_wp2_with fail
    go_ret
    exact ⟨by rw [HT.out]; rfl, HE.out⟩
  | true =>
    refine tk 3 ?_
    refine tk 4 ?_
    refine tk 5 ?_
    refine rl 6 fun K hK => ?_
    go_simp
    refine (implTrain17 pa pc ja jc fp fa fw lg nb B ba bk w1 hn hm hnb hpc hpm hjc hjm (H.out.1.mono (Nat.le_refl _) M1.out.1 (Nat.le_refl _)) (H.out.2.1.mono (Nat.le_refl _) M1.out.1 (Nat.le_refl _)) H.out.2.2.1 H.out.2.2.2.1 (H.out.2.2.2.2.1.mono (Nat.le_refl _) M1.out.1 (Nat.le_refl _))).mono ?_
    rintro e w2 ⟨he, hb2⟩
    have M2 : Hid (Below w.heap.size w w2 ∧ Box w2 (w.heap.size) 32 #[.slice pa v.n pc, .slice ja v.m jc] ∧ Box w2 (w.heap.size + 1) 48 #[.int .i64 fp, .int .i64 fa, .int .i64 fw, .int .i64 lg, .slice ba nb bk]) := ⟨M1.out.1.trans (hb2.mono M1.out.1.size), M1.out.2.1.mono hb2 (Nat.le_refl _), M1.out.2.2.mono hb2 (Nat.le_refl _)⟩
    clear hb2
    rw [HU2.out] at he
    subst he
    go_wp2_with fail
    refine hK.out _ _ ?_ (fun hHeld6 => ?_)
    · exact ⟨M2.out.2.1.cell 0, M2.out.2.1.cell 1, M2.out.2.2.cell 0, M2.out.2.2.cell 1, M2.out.2.2.cell 2, M2.out.2.2.cell 3, M2.out.2.2.cell 4⟩
    clear hK K
    cases u2 with
    | false =>
      have HT : Hid (R = false) := HR.out.symm.trans (by rw [sitsF, HU.out, HU2.out]; rfl)
      refine tk 7 ?_
      refine tk 8 ?_
      refine tf 9 ?_
      refine tf 10 ?_
      refine tf 11 ?_
      refine tf 12 ?_
      refine tf 13 ?_
      refine tf 14 ?_
      refine tf 15 ?_
      refine tk 16 ?_
      refine tk 17 ?_
      refine wpAnyH_done (by kernel_rfl) ?_ _
      have HE : Hid (Below w.heap.size w w2) := M2.out.1
      go_wp2_with fail
      go_ret
      exact ⟨by rw [HT.out]; rfl, HE.out⟩
    | true =>
      have HK : Hid v.Ok := (trn_parts HU2.out).1
      have HTR : Hid (spotB v fp fa fw = true ∧ nb ≤ 200 ∧ ∀ i, i < nb → stepB v (B i 0) (B i 1) = true) := (trn_parts HU2.out).2
      have HNL : Hid (nl = v.m) := (lies_parts HU.out).1
      have HLB : Hid (∀ i, i < v.m → lieB v.J L i = true) := (lies_parts HU.out).2
      have HT : Hid (R = railedB v L fp fw nb B) := HR.out.symm.trans (by rw [sitsF, HU.out, HU2.out]; rfl)
      obtain ⟨u3, HRL⟩ : ∃ u, Hid (railedB v L fp fw nb B = u) := ⟨_, rfl⟩
      refine tk 7 ?_
      refine tk 8 ?_
      refine tk 9 ?_
      refine tk 11 ?_
      refine tk 12 ?_
      refine rl 10 fun K hK => ?_
      go_simp
      refine (bodyOf46 fp fa fw lg ba nb bk w2).mono ?_
      rintro e w3 ⟨rfl, hb3⟩
      have M3 : Hid (Below w.heap.size w w3 ∧ Box w3 (w.heap.size) 32 #[.slice pa v.n pc, .slice ja v.m jc] ∧ Box w3 (w.heap.size + 1) 48 #[.int .i64 fp, .int .i64 fa, .int .i64 fw, .int .i64 lg, .slice ba nb bk]) := ⟨M2.out.1.trans (hb3.mono M2.out.1.size), M2.out.2.1.mono hb3 (Nat.le_refl _), M2.out.2.2.mono hb3 (Nat.le_refl _)⟩
      clear hb3
      go_wp2_with fail
      refine hK.out _ _ ?_ (fun hHeld10 => ?_)
      · exact ⟨M3.out.2.1.cell 0, M3.out.2.1.cell 1, M3.out.2.2.cell 0, M3.out.2.2.cell 1, M3.out.2.2.cell 2, M3.out.2.2.cell 3, M3.out.2.2.cell 4⟩
      clear hK K
      refine rl 13 fun K hK => ?_
      go_simp
      refine (railsOf48 HK.out pa pc ja jc la nl lc w3 (H.out.1.mono (Nat.le_refl _) M3.out.1 (Nat.le_refl _)) (H.out.2.1.mono (Nat.le_refl _) M3.out.1 (Nat.le_refl _))).mono ?_
      rintro e w4 ⟨bt, sb, rfl, hTK, hb4⟩
      have M4 : Hid ((Below w.heap.size w w4 ∧ Box w4 (w.heap.size) 32 #[.slice pa v.n pc, .slice ja v.m jc] ∧ Box w4 (w.heap.size + 1) 48 #[.int .i64 fp, .int .i64 fa, .int .i64 fw, .int .i64 lg, .slice ba nb bk]) ∧ TkAt w4 bt sb v pa pc ja jc) := ⟨⟨M3.out.1.trans (hb4.mono M3.out.1.size), M3.out.2.1.mono hb4 (Nat.le_refl _), M3.out.2.2.mono hb4 (Nat.le_refl _)⟩, hTK⟩
      clear hb4 hTK
      go_wp2_with fail
      refine hK.out _ _ ?_ (fun hHeld13 => ?_)
      · exact ⟨M4.out.1.2.1.cell 0, M4.out.1.2.1.cell 1, M4.out.1.2.2.cell 0, M4.out.1.2.2.cell 1, M4.out.1.2.2.cell 2, M4.out.1.2.2.cell 3, M4.out.1.2.2.cell 4⟩
      clear hK K
      refine tk 14 ?_
      refine rl 15 fun K hK => ?_
      go_simp
      rw [HNL.out]
      refine (joinedR47 HK.out fp fa fw lg nb B ba bk la lc L w4 M4.out.2 HTR.out.1 HTR.out.2.1 (H.out.2.2.2.2.1.mono (Nat.le_refl _) M4.out.1.1 (Nat.le_refl _)) HTR.out.2.2 (by have := H.out.2.2.2.2.2.mono (Nat.le_refl _) M4.out.1.1 (Nat.le_refl _); rwa [HNL.out] at this) HLB.out).mono ?_
      rintro e w5 ⟨he, hb5⟩
      rw [HRL.out] at he
      subst he
      have M5 : Hid (Below w.heap.size w w5 ∧ Box w5 (w.heap.size) 32 #[.slice pa v.n pc, .slice ja v.m jc] ∧ Box w5 (w.heap.size + 1) 48 #[.int .i64 fp, .int .i64 fa, .int .i64 fw, .int .i64 lg, .slice ba nb bk]) := ⟨M4.out.1.1.trans (hb5.mono M4.out.1.1.size), M4.out.1.2.1.mono hb5 (Nat.le_refl _), M4.out.1.2.2.mono hb5 (Nat.le_refl _)⟩
      clear hb5
      go_wp2_with fail
      refine hK.out _ _ ?_ (fun hHeld15 => ?_)
      · exact ⟨M5.out.2.1.cell 0, M5.out.2.1.cell 1, M5.out.2.2.cell 0, M5.out.2.2.cell 1, M5.out.2.2.cell 2, M5.out.2.2.cell 3, M5.out.2.2.cell 4⟩
      clear hK K
      refine tk 16 ?_
      refine tk 17 ?_
      refine wpAnyH_done (by kernel_rfl) ?_ _
      have HE : Hid (Below w.heap.size w w5) := M5.out.1
      go_wp2_with fail
      go_ret
      exact ⟨by rw [HT.out, HRL.out]; rfl, HE.out⟩

end Go.Proofs.Ytoennemahlakeaa
