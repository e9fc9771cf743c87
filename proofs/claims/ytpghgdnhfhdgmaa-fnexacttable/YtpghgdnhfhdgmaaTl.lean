import Derived.Test.YtpghgdnhfhdgmaaTu
namespace Go.Proofs.Ytpghgdnhfhdgmaa
open Go.RowKit

theorem tn_le (n : Nat) : tn n ≤ 300 := by
  unfold tn
  split <;> omega

set_option maxRecDepth 100000 in
set_option maxHeartbeats 8000000 in
theorem law5 (a : Option Addr) (n cap : Nat) (R : Nat → Rt) (w : World) (hn : n ≤ maxLen) (h : RsAt 0 w a n R) (hf : ∀ i, i < n → (R i).fits) :
    Calls Try.prog 5 #[.slice a n cap] w fun e w' => e = .returned (.bool true) ∧ Below w.heap.size w w' := by
  have H : Hid (RsAt 0 w a n R) := h
  have HF : Hid (∀ i, i < n → (R i).fits) := hf
  clear h hf
  go_enter Try.func5, Try.ntmps5
  go_wp2_with fail
  refine (szRouteS a n cap R 1048576 _ hn (by omega) (by omega) H.out HF.out).mono ?_
  rintro e w1 ⟨k1, rfl, _, hk1, B1⟩
  by_cases hneg : k1 < 0
  · clear hk1
    go_wp2_with fail
    go_ret
    exact ⟨rfl, B1⟩
  · obtain ⟨hk2, hk3⟩ := hk1 (by omega)
    have hn1 : n ≤ 1048576 := by omega
    have HSM : Hid (∀ i, i < n → (R i).small) := fun i hi => Rt.small_of (by have := hk3 i hi; omega)
    have HSL : Hid (∀ i, i < n → (R i).small ∧ (R i).nl + (R i).nf ≤ 1048576) := fun i hi => ⟨HSM.out i hi, by have := hk3 i hi; unfold Rt.sum at this; omega⟩
    have HL : Hid (∀ i, i < tn n → (fun _ : Nat => tn n) i ≤ 1048576) := fun i _ => by have := tn_le n; show tn n ≤ 1048576; omega
    have ht := tn_le n
    have ht1 : tn n ≤ 1048576 := by omega
    clear hk1 hk2 hk3
    go_wp2_with fail
    refine (toRouteS a n cap R _ hn1 (H.out.mono (Nat.le_refl _) B1 (Nat.le_refl _)) HSM.out).mono ?_
    rintro e w2 ⟨b1, lo1, hb1, rfl, R2, hB2⟩
    have B2 := B1.trans (hB2.mono B1.size)
    have HR2 : Hid (RsAt 0 w2 (some ⟨b1, 0, none⟩) n R) := R2.at (Nat.zero_le _)
    clear R2 hB2 B1 hb1
    go_wp2_with fail
    refine (table18 b1 n R _ hn1 HSL.out HR2.out).mono ?_
    rintro e w3 ⟨a0, c0, rfl, S3, hB3⟩
    have B3 := B2.trans (hB3.mono B2.size)
    have HS3 : Hid (SsAt 0 w3 a0 (tn n) (fun _ => tn n) (fun i k => exF (R i) (R k))) := S3.mono (Nat.zero_le _) (Below.refl w3.heap.size w3) (Nat.le_refl _)
    clear S3 hB3 HR2 B2
    go_wp2_with fail
    refine (toRouteS a n cap R _ hn1 (H.out.mono (Nat.le_refl _) B3 (Nat.le_refl _)) HSM.out).mono ?_
    rintro e w4 ⟨b2, lo2, hb2, rfl, R4, hB4⟩
    have B4 := B3.trans (hB4.mono B3.size)
    have HR4 : Hid (RsOwn w4 b2 n n R lo2) := R4
    have C4 : Hid (Below w3.heap.size w3 w4) := hB4
    have hlo : lo2 n ≤ w4.heap.size := by obtain ⟨_, _, _, _, h4, _⟩ := R4; exact h4
    have z34 := hB4.size
    have HB2 : Hid (b2 = w3.heap.size) := hb2
    clear R4 hB4 hb2
    go_wp2_with fail
    refine (table20 b2 n R lo2 _ hn1 HSL.out HR4.out).mono ?_
    rintro e w5 ⟨ag, cg, r, rfl, G5, hB5⟩
    have B5 := B4.trans (hB5.mono B4.size)
    have C5 : Hid (Below w3.heap.size w3 w5) := C4.out.trans (hB5.mono z34)
    have HR5 : Hid (RsOwn w5 b2 n n R lo2) := HR4.out.mono hB5 (Nat.le_refl _)
    have HG5 : Hid (SsOwn w4.heap.size w5 ag (tn n) (tn n) (fun i k => exF (R i) (R k)) r) := G5
    have z45 := hB5.size
    clear G5 hB5 HR4 C4 B4
    go_wp2_with fail
    refine (eqIntSS ag a0 (tn n) cg c0 (fun _ => tn n) (fun i k => exF (R i) (R k)) _ ht1 HL.out (HG5.out.at (Nat.zero_le _)) (HS3.out.mono (Nat.le_refl _) C5.out (Nat.le_refl _))).mono ?_
    rintro e w6 ⟨rfl, hB6⟩
    have B6 := B5.trans (hB6.mono B5.size)
    have C6 : Hid (Below w3.heap.size w3 w6) := C5.out.trans (hB6.mono C5.out.size)
    have HR6 : Hid (RsOwn w6 b2 n n R lo2) := HR5.out.mono hB6 (Nat.le_refl _)
    have HG6 : Hid (SsOwn w4.heap.size w6 ag (tn n) (tn n) (fun i k => exF (R i) (R k)) r) := HG5.out.mono hB6 (Nat.le_refl _)
    have z56 := hB6.size
    clear hB6 HR5 HG5 C5 B5
    go_wp2_with fail
    refine (toRouteS a n cap R _ hn1 (H.out.mono (Nat.le_refl _) B6 (Nat.le_refl _)) HSM.out).mono ?_
    rintro e w7 ⟨b3, lo3, hb3, rfl, R7, hB7⟩
    have B7 := B6.trans (hB7.mono B6.size)
    have C7 : Hid (Below w3.heap.size w3 w7) := C6.out.trans (hB7.mono C6.out.size)
    have HR7 : Hid (RsOwn w7 b2 n n R lo2) := HR6.out.mono hB7 (Nat.le_refl _)
    have HG7 : Hid (SsOwn w4.heap.size w7 ag (tn n) (tn n) (fun i k => exF (R i) (R k)) r) := HG6.out.mono hB7 (Nat.le_refl _)
    have HY7 : Hid (RsAt 0 w7 (some ⟨b3, 0, none⟩) n R) := R7.at (Nat.zero_le _)
    have z67 := hB7.size
    clear hB7 HR6 HG6 C6 B6 R7 hb3
    go_wp2_with fail
    refine (eqRouteS19 (some ⟨b2, 0, none⟩) (some ⟨b3, 0, none⟩) n n n R _ hn1 HSM.out (HR7.out.at (Nat.zero_le _)) HY7.out).mono ?_
    rintro e w8 ⟨rfl, hB8⟩
    have B8 := B7.trans (hB8.mono B7.size)
    have C8 : Hid (Below w3.heap.size w3 w8) := C7.out.trans (hB8.mono C7.out.size)
    have HR8 : Hid (RsOwn w8 b2 n n R lo2) := HR7.out.mono hB8 (Nat.le_refl _)
    have HG8 : Hid (SsOwn w4.heap.size w8 ag (tn n) (tn n) (fun i k => exF (R i) (R k)) r) := HG7.out.mono hB8 (Nat.le_refl _)
    have z78 := hB8.size
    clear hB8 HR7 HG7 C7 B7 HY7
    go_wp2_with fail
    refine (markRouteS b2 n R lo2 _ hn1 HSM.out HR8.out).mono ?_
    rintro e w9 ⟨kk, rfl, hF9⟩
    have hw3 := B3.size
    have B9 := B8.trans (hF9.below (B := w.heap.size) B8.size (fun g hg ⟨q1, _⟩ => by have := HB2.out; omega))
    have C9 : Hid (Below w3.heap.size w3 w9) := C8.out.trans (hF9.below (B := w3.heap.size) C8.out.size (fun g hg ⟨q1, _⟩ => by have := HB2.out; omega))
    have HG9 : Hid (SsOwn w4.heap.size w9 ag (tn n) (tn n) (fun i k => exF (R i) (R k)) r) := HG8.out.fr hF9 (fun g hg ⟨_, q2⟩ => by omega)
    have z89 := hF9.size
    have hkk : (0 : Int) ≤ (kk : Int) := by omega
    clear hF9 HR8 HG8 C8 B8
    go_wp2_with fail
    refine (eqIntSS ag a0 (tn n) cg c0 (fun _ => tn n) (fun i k => exF (R i) (R k)) _ ht1 HL.out (HG9.out.at (Nat.zero_le _)) (HS3.out.mono (Nat.le_refl _) C9.out (Nat.le_refl _))).mono ?_
    rintro e w10 ⟨rfl, hB10⟩
    have B10 := B9.trans (hB10.mono B9.size)
    have C10 : Hid (Below w3.heap.size w3 w10) := C9.out.trans (hB10.mono C9.out.size)
    have HG10 : Hid (SsOwn w4.heap.size w10 ag (tn n) (tn n) (fun i k => exF (R i) (R k)) r) := HG9.out.mono hB10 (Nat.le_refl _)
    have z910 := hB10.size
    clear hB10 HG9 C9 B9
    go_wp2_with fail
    refine (markIntSS ag (tn n) (tn n) cg w4.heap.size (fun i k => exF (R i) (R k)) r _ ht ht HG10.out).mono ?_
    rintro e w11 ⟨he, M11, hB11, hz11⟩
    generalize hmm : 1 + tn n * tn n = mm at he
    subst he
    have B11 := B10.trans (hB11.mono (by omega))
    have C11 : Hid (Below w3.heap.size w3 w11) := C10.out.trans (hB11.mono z34)
    have HM11 : Hid (SsMark w11 ag (tn n) (tn n) r) := M11
    have hmm0 : (0 : Int) ≤ (mm : Int) := by omega
    clear M11 hB11 HG10 C10 B10
    have HMM : Hid (1 + tn n * tn n = mm) := hmm
    clear hmm
    go_wp2_with fail
    refine (heldIntSS ag (tn n) (tn n) cg r _ ht ht HM11.out).mono ?_
    rintro e w12 ⟨he, hw12⟩
    subst hw12
    rw [HMM.out] at he
    subst he
    go_wp2_with fail
    refine (toRouteS a n cap R _ hn1 (H.out.mono (Nat.le_refl _) B11 (Nat.le_refl _)) HSM.out).mono ?_
    rintro e w13 ⟨b4, lo4, hb4, rfl, R13, hB13⟩
    have B13 := B11.trans (hB13.mono B11.size)
    have HR13 : Hid (RsOwn w13 b4 n n R lo4) := R13
    have C13 : Hid (Below w3.heap.size w3 w13) := C11.out.trans (hB13.mono C11.out.size)
    have HM13 : Hid (SsMark w13 ag (tn n) (tn n) r) := HM11.out.mono hB13 (Nat.le_refl _)
    clear R13 hB13 HM11 C11 B11 hb4
    go_wp2_with fail
    refine (table20 b4 n R lo4 _ hn1 HSL.out HR13.out).mono ?_
    rintro e w14 ⟨ah, ch, r', rfl, G14, hB14⟩
    have B14 := B13.trans (hB14.mono B13.size)
    have C14 : Hid (Below w3.heap.size w3 w14) := C13.out.trans (hB14.mono C13.out.size)
    have HM14 : Hid (SsMark w14 ag (tn n) (tn n) r) := HM13.out.mono hB14 (Nat.le_refl _)
    have HG14 : Hid (SsAt 0 w14 ah (tn n) (fun _ => tn n) (fun i k => exF (R i) (R k))) := G14.at (Nat.zero_le _)
    clear G14 hB14 HM13 C13 B13 HR13
    go_wp2_with fail
    refine (eqIntSS ah a0 (tn n) ch c0 (fun _ => tn n) (fun i k => exF (R i) (R k)) _ ht1 HL.out HG14.out (HS3.out.mono (Nat.le_refl _) C14.out (Nat.le_refl _))).mono ?_
    rintro e w15 ⟨rfl, hB15⟩
    have B15 := B14.trans (hB15.mono B14.size)
    have HM15 : Hid (SsMark w15 ag (tn n) (tn n) r) := HM14.out.mono hB15 (Nat.le_refl _)
    clear hB15 HM14 HG14 C14 B14
    go_wp2_with fail
    refine (heldIntSS ag (tn n) (tn n) cg r _ ht ht HM15.out).mono ?_
    rintro e w16 ⟨he, hw16⟩
    subst hw16
    rw [HMM.out] at he
    subst he
    go_wp2_with fail
    go_ret
    exact ⟨rfl, B15⟩

end Go.Proofs.Ytpghgdnhfhdgmaa
