import Derived.Test.YtdkjgedkmnoglaaSigD
namespace Go.Proofs.Ytdkjgedkmnoglaa
open Go.RowKit

set_option maxRecDepth 100000 in
set_option maxHeartbeats 4000000 in
theorem law4 (pa : Option Addr) (n pc : Nat) (P : Nat → Pc) (ja : Option Addr) (m jc : Nat) (J : Nat → Jt) (sa : Option Addr) (k sc : Nat) (S : Nat → Pc) (w : World) (hn : n ≤ maxLen) (hm : m ≤ maxLen) (hk : k ≤ maxLen)
    (hP : PsAt 0 w pa n P) (hJ : JsAt 0 w ja m J) (hS : PsAt 0 w sa k S) (hps : ∀ i, i < n → (P i).nm.size ≤ maxLen) (hjs : ∀ i, i < m → (J i).nm.size ≤ maxLen ∧ (J i).ne ≤ maxLen) (hss : ∀ i, i < k → (S i).nm.size ≤ maxLen) :
    Calls Try.prog 4 #[.agg #[.slice pa n pc, .slice ja m jc], .slice sa k sc] w fun e w' => e = .returned (.bool true) ∧ Below w.heap.size w w' := by
  have Hjs : Hid (∀ i, i < m → (J i).nm.size ≤ maxLen ∧ (J i).ne ≤ maxLen) := hjs
  have Hps : Hid (∀ i, i < n → (P i).nm.size ≤ maxLen) := hps
  have Hss : Hid (∀ i, i < k → (S i).nm.size ≤ maxLen) := hss
  clear hjs hps hss
  go_enter Try.func4, Try.ntmps4
  go_wp2_with fail
  have b0 := bel1 w (.cells #[.slice pa n pc, .slice ja m jc] 25)
  have a0 : (w.alloc (.cells #[.slice pa n pc, .slice ja m jc] 25)).cell? ⟨w.heap.size, 0, none⟩ = some (.slice pa n pc) := by simp
  have a1 : (w.alloc (.cells #[.slice pa n pc, .slice ja m jc] 25)).cell? ⟨w.heap.size, 1, none⟩ = some (.slice ja m jc) := by simp
  have s0 : w.heap.size < (w.alloc (.cells #[.slice pa n pc, .slice ja m jc] 25)).heap.size := by simp
  refine (szNet5 pa n pc P ja m jc J 1048576 _ hn hm (by omega) (by omega) (hP.mono (Nat.le_refl _) b0 (Nat.le_refl _)) (hJ.mono (Nat.le_refl _) b0 (Nat.le_refl _)) Hps.out Hjs.out).mono ?_
  rintro e w1 ⟨r, rfl, hr1, hr2, hb1⟩
  have B1 := b0.trans (hb1.mono b0.size)
  have a0 := cell_keep hb1 s0 a0
  have a1 := cell_keep hb1 s0 a1
  have s1 : w.heap.size < w1.heap.size := Nat.lt_of_lt_of_le s0 hb1.size
  clear s0 b0 hb1
  by_cases hneg : r < 0
  · clear hr2
    go_wp2_with fail
    go_ret
    exact ⟨rfl, B1⟩
  · obtain ⟨hn2, hm2, hne2⟩ := hr2 (by omega)
    have hn' : n ≤ 1048576 := by omega
    have hm' : m ≤ 1048576 := by omega
    have Hne : Hid (∀ i, i < m → (J i).ne ≤ 1048576) := fun i hi => by have := hne2 i hi; omega
    have Hjs2 : Hid (∀ i, i < m → (J i).ne ≤ 1048576 ∧ (J i).nm.size ≤ maxLen) := fun i hi => ⟨Hne.out i hi, (Hjs.out i hi).1⟩
    clear hr2 hne2 hn2 hm2
    go_wp2_with fail
    refine (szSignalS11 sa k sc S r _ hk (by omega) (by omega) (hS.mono (Nat.le_refl _) B1 (Nat.le_refl _)) Hss.out).mono ?_
    rintro e w2 ⟨r', rfl, hr3, hr4, hb2⟩
    have B2 := B1.trans (hb2.mono B1.size)
    have a0 := cell_keep hb2 s1 a0
    have a1 := cell_keep hb2 s1 a1
    have s2 : w.heap.size < w2.heap.size := Nat.lt_of_lt_of_le s1 hb2.size
    clear s1 B1 hb2
    by_cases hneg2 : r' < 0
    · clear hr4
      go_wp2_with fail
      go_ret
      exact ⟨rfl, B2⟩
    · have hk' : k ≤ 1048576 := by have := hr4 (by omega); omega
      clear hr4 hr3
      go_wp2_with fail
      refine (toNet7 pa n pc P ja m jc J _ hn' hm' (hP.mono (Nat.le_refl _) B2 (Nat.le_refl _)) (hJ.mono (Nat.le_refl _) B2 (Nat.le_refl _)) Hne.out).mono ?_
      rintro e w3 ⟨pa1, ja1, rfl, hP3, hJ3, hb3⟩
      have B3 := B2.trans (hb3.mono B2.size)
      have a0 := cell_keep hb3 s2 a0
      have a1 := cell_keep hb3 s2 a1
      have s3 : w.heap.size < w3.heap.size := Nat.lt_of_lt_of_le s2 hb3.size
      clear s2 B2 hb3
      go_wp2_with fail
      refine (toSignalS13 sa k sc S _ hk' (hS.mono (Nat.le_refl _) B3 (Nat.le_refl _))).mono ?_
      rintro e w4 ⟨rfl, hS4, hb4⟩
      have B4 := B3.trans (hb4.mono B3.size)
      have a0 := cell_keep hb4 s3 a0
      have a1 := cell_keep hb4 s3 a1
      have s4 : w.heap.size < w4.heap.size := Nat.lt_of_lt_of_le s3 hb4.size
      have hP4 := hP3.mono (Nat.zero_le _) hb4 (Nat.le_refl _)
      have hJ4 := hJ3.mono (Nat.zero_le _) hb4 (Nat.le_refl _)
      have hS4' : PsAt 0 w4 (some ⟨w3.heap.size, 0, none⟩) k S := hS4.keep (Nat.zero_le _) (Nat.le_refl _) fun _ _ _ => rfl
      clear s3 B3 hb4 hP3 hJ3 hS4
      go_wp2_with fail
      refine (spec12 pa1 n n P ja1 m m J _ k k S _ hn' hm' hP4 hJ4 Hps.out Hjs2.out hk' hS4' Hss.out).mono ?_
      rintro e w5 ⟨rfl, hb5⟩
      have B5 := B4.trans (hb5.mono B4.size)
      have a0 := cell_keep hb5 s4 a0
      have a1 := cell_keep hb5 s4 a1
      have s5 : w.heap.size < w5.heap.size := Nat.lt_of_lt_of_le s4 hb5.size
      clear s4 B4 hb5 hP4 hJ4 hS4'
      have HI : Hid (∀ (W : World) (pa ja sa : Option Addr), PsAt 0 W pa n P → JsAt 0 W ja m J → PsAt 0 W sa k S → Calls Try.prog 14 #[.agg #[.slice pa n n, .slice ja m m], .slice sa k k] W fun r w' => r = .returned (.agg #[.int .i64 (sigF n P m J k S).1, .int .i64 (sigF n P m J k S).2]) ∧ Below W.heap.size W w') := fun W pa ja sa h1 h2 h3 =>
        impl14 pa n n P ja m m J sa k k S W hn' hm' (Nat.le_refl _) hn (Nat.le_refl _) hm h1 h2 Hps.out Hjs2.out hk' (Nat.le_refl _) hk h3 Hss.out
      generalize (sigF n P m J k S).1 = c at *
      generalize (sigF n P m J k S).2 = d at *
      go_wp2_with fail
      have b6 := bel1 w5 (.cells #[.int .i64 c, .int .i64 d] 28)
      have B6 := B5.trans (b6.mono B5.size)
      have q0 : (w5.alloc (.cells #[.int .i64 c, .int .i64 d] 28)).cell? ⟨w5.heap.size, 0, none⟩ = some (.int .i64 c) := by simp
      have q1 : (w5.alloc (.cells #[.int .i64 c, .int .i64 d] 28)).cell? ⟨w5.heap.size, 1, none⟩ = some (.int .i64 d) := by simp
      have t6 : w5.heap.size < (w5.alloc (.cells #[.int .i64 c, .int .i64 d] 28)).heap.size := by simp
      have a0 := cell_keep b6 s5 a0
      have a1 := cell_keep b6 s5 a1
      have s6 := Nat.lt_of_lt_of_le s5 b6.size
      refine (toNet7 pa n pc P ja m jc J _ hn' hm' (hP.mono (Nat.le_refl _) B6 (Nat.le_refl _)) (hJ.mono (Nat.le_refl _) B6 (Nat.le_refl _)) Hne.out).mono ?_
      rintro e w7 ⟨pa2, ja2, rfl, hP7, hJ7, hb7⟩
      have B7 := B6.trans (hb7.mono B6.size)
      have a0 := cell_keep hb7 s6 a0
      have a1 := cell_keep hb7 s6 a1
      have q0 := cell_keep hb7 t6 q0
      have q1 := cell_keep hb7 t6 q1
      have s7 := Nat.lt_of_lt_of_le s6 hb7.size
      have t7 := Nat.lt_of_lt_of_le t6 hb7.size
      clear s5 s6 t6 b6 B5 B6 hb7
      go_wp2_with fail
      have b8 := bel1 w7 (.cells #[.slice pa2 n n, .slice ja2 m m] 33)
      have B8 := B7.trans (b8.mono B7.size)
      have hP8 := hP7.mono (Nat.zero_le _) b8 (Nat.le_refl _)
      have hJ8 := hJ7.mono (Nat.zero_le _) b8 (Nat.le_refl _)
      have x0 : (w7.alloc (.cells #[.slice pa2 n n, .slice ja2 m m] 33)).cell? ⟨w7.heap.size, 0, none⟩ = some (.slice pa2 n n) := by simp
      have x1 : (w7.alloc (.cells #[.slice pa2 n n, .slice ja2 m m] 33)).cell? ⟨w7.heap.size, 1, none⟩ = some (.slice ja2 m m) := by simp
      have u8 : w7.heap.size < (w7.alloc (.cells #[.slice pa2 n n, .slice ja2 m m] 33)).heap.size := by simp
      have s8 := Nat.lt_of_lt_of_le s7 b8.size
      have t8 := Nat.lt_of_lt_of_le t7 b8.size
      have a0 := cell_keep b8 s7 a0
      have a1 := cell_keep b8 s7 a1
      have q0 := cell_keep b8 t7 q0
      have q1 := cell_keep b8 t7 q1
      refine (toSignalS13 sa k sc S _ hk' (hS.mono (Nat.le_refl _) B8 (Nat.le_refl _))).mono ?_
      rintro e w9 ⟨rfl, hS9, hb9⟩
      generalize hsa2 : (some ⟨(w7.alloc (.cells #[.slice pa2 n n, .slice ja2 m m] 33)).heap.size, 0, none⟩ : Option Addr) = sa2 at *
      clear hsa2
      have B9 := B8.trans (hb9.mono B8.size)
      have hP9 := hP8.mono (Nat.le_refl _) hb9 (Nat.le_refl _)
      have hJ9 := hJ8.mono (Nat.le_refl _) hb9 (Nat.le_refl _)
      have hS9' : PsAt 0 w9 sa2 k S := hS9.keep (Nat.zero_le _) (Nat.le_refl _) fun _ _ _ => rfl
      have a0 := cell_keep hb9 s8 a0
      have a1 := cell_keep hb9 s8 a1
      have q0 := cell_keep hb9 t8 q0
      have q1 := cell_keep hb9 t8 q1
      have x0 := cell_keep hb9 u8 x0
      have x1 := cell_keep hb9 u8 x1
      have s9 := Nat.lt_of_lt_of_le s8 hb9.size
      have t9 := Nat.lt_of_lt_of_le t8 hb9.size
      have u9 := Nat.lt_of_lt_of_le u8 hb9.size
      clear s7 s8 t7 t8 u8 b8 B7 B8 hP7 hJ7 hP8 hJ8 hb9 hS9
      go_wp2_with fail
      refine (HI.out _ pa2 ja2 sa2 hP9 hJ9 hS9').mono ?_
      rintro e wa ⟨rfl, hba⟩
      have Ba := B9.trans (hba.mono B9.size)
      have hPa := hP9.mono (Nat.le_refl _) hba (Nat.le_refl _)
      have hJa := hJ9.mono (Nat.le_refl _) hba (Nat.le_refl _)
      have hSa := hS9'.mono (Nat.le_refl _) hba (Nat.le_refl _)
      have a0 := cell_keep hba s9 a0
      have a1 := cell_keep hba s9 a1
      have q0 := cell_keep hba t9 q0
      have q1 := cell_keep hba t9 q1
      have x0 := cell_keep hba u9 x0
      have x1 := cell_keep hba u9 x1
      have s10 := Nat.lt_of_lt_of_le s9 hba.size
      have t10 := Nat.lt_of_lt_of_le t9 hba.size
      have u10 := Nat.lt_of_lt_of_le u9 hba.size
      clear s9 t9 u9 B9 hP9 hJ9 hS9' hba HI
      go_wp2_with fail
      have bb := bel1 wa (.cells #[.int .i64 c, .int .i64 d] 28)
      refine (eqFault9 c d _).mono ?_
      rintro e wb ⟨rfl, hbb⟩
      have Bb := (Ba.trans (bb.mono Ba.size)).trans (hbb.mono (Nat.le_trans Ba.size bb.size))
      have hPb := (hPa.mono (Nat.le_refl _) bb (Nat.le_refl _)).mono (Nat.le_refl _) hbb (Nat.le_refl _)
      have hJb := (hJa.mono (Nat.le_refl _) bb (Nat.le_refl _)).mono (Nat.le_refl _) hbb (Nat.le_refl _)
      have hSb := (hSa.mono (Nat.le_refl _) bb (Nat.le_refl _)).mono (Nat.le_refl _) hbb (Nat.le_refl _)
      have a0 := cell_keep hbb (Nat.lt_of_lt_of_le s10 bb.size) (cell_keep bb s10 a0)
      have a1 := cell_keep hbb (Nat.lt_of_lt_of_le s10 bb.size) (cell_keep bb s10 a1)
      have x0 := cell_keep hbb (Nat.lt_of_lt_of_le u10 bb.size) (cell_keep bb u10 x0)
      have x1 := cell_keep hbb (Nat.lt_of_lt_of_le u10 bb.size) (cell_keep bb u10 x1)
      have u11 := Nat.lt_of_lt_of_le (Nat.lt_of_lt_of_le u10 bb.size) hbb.size
      clear s10 t10 u10 bb Ba hPa hJa hSa hbb q0 q1
      have hPb := hPb.mono (Nat.le_refl _) (Below.refl wb.heap.size wb).drew (Nat.le_refl _)
      have hJb := hJb.mono (Nat.le_refl _) (Below.refl wb.heap.size wb).drew (Nat.le_refl _)
      have hPc := hP.mono (Nat.le_refl _) Bb.drew (Nat.le_refl _)
      have hJc := hJ.mono (Nat.le_refl _) Bb.drew (Nat.le_refl _)
      go_wp2_with fail
      go_region_with (first | (go_at_call 7; refine (toNet7 pa n pc P ja m jc J _ hn' hm' hPc hJc Hne.out).mono ?_; rintro e wc ⟨pa3, ja3, rfl, hPd, hJd, hbc⟩; have x0 := cell_keep hbc u11 x0; have x1 := cell_keep hbc u11 x1) | (go_at_call 10; refine (eqNet10 pa2 pa3 n n n P ja2 ja3 m m m J _ hn' hm' (hPb.mono (Nat.le_refl _) hbc (Nat.le_refl _)) (hPd.keep (Nat.zero_le _) (Nat.le_refl _) fun _ _ _ => rfl) (hJb.mono (Nat.le_refl _) hbc (Nat.le_refl _)) (hJd.keep (Nat.zero_le _) (Nat.le_refl _) fun _ _ _ => rfl) Hne.out).mono ?_; rintro e wd ⟨rfl, hbd⟩))
      all_goals
        have Bd := (Bb.drew.trans (hbc.mono Bb.drew.size)).trans (hbd.mono (Nat.le_trans Bb.drew.size hbc.size))
        have hSd := ((hSb.mono (Nat.le_refl _) (Below.refl wb.heap.size wb).drew (Nat.le_refl _)).mono (Nat.le_refl _) hbc (Nat.le_refl _)).mono (Nat.le_refl _) hbd (Nat.le_refl _)
        clear Bb hPb hJb hPc hJc hPd hJd hbc hbd hSb a0 a1 x0 x1 u11
        go_wp2_with fail
        refine (toSignalS13 sa k sc S _ hk' (hS.mono (Nat.le_refl _) Bd (Nat.le_refl _))).mono ?_
        rintro e we ⟨rfl, hSe, hbe⟩
        have Be := Bd.trans (hbe.mono Bd.size)
        have hSe' : PsAt 0 we (some ⟨wd.heap.size, 0, none⟩) k S := hSe.keep (Nat.zero_le _) (Nat.le_refl _) fun _ _ _ => rfl
        have hSf := hSd.mono (Nat.le_refl _) hbe (Nat.le_refl _)
        clear Bd hSd hSe hbe
        go_wp2_with fail
        refine (eqSignalS15 sa2 _ k k k S _ hk' hSf hSe').mono ?_
        rintro e wf ⟨rfl, hbf⟩
        go_wp2_with fail
        go_ret
        exact ⟨rfl, Be.trans (hbf.mono Be.size)⟩

end Go.Proofs.Ytdkjgedkmnoglaa
