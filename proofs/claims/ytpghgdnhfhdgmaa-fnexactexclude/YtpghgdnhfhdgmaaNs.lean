import Derived.Test.YtpghgdnhfhdgmaaNi
namespace Go.Proofs.Ytpghgdnhfhdgmaa
open Go.RowKit

set_option maxRecDepth 100000 in
set_option maxHeartbeats 4000000 in
theorem needsS (fr to : Int) (sa la xa qa oa fa : Option Addr) (ns sc nl lc nx xc np qc no oc nf fc : Nat) (G F : Nat → Nat → Int) (w : World) (hn : nl ≤ 1048576) (hf : nf ≤ 1048576)
    (hL : NsAt 2 0 w la nl G) (hF : NsAt 4 0 w fa nf F) :
    Calls Try.prog 7 #[.agg #[.int .i64 fr, .int .i64 to, .slice sa ns sc, .slice la nl lc, .slice xa nx xc, .slice qa np qc, .slice oa no oc, .slice fa nf fc]] w fun e w' => ∃ v, e = .returned v ∧ Own w.heap.size 62 2 w' v (nd (lsF 2 nl G) F nf) ∧ Below w.heap.size w w' := by
  obtain ⟨i1, e1, e2, e3, e4⟩ := info_parts infoLie
  go_enter Try.func7, Try.ntmps7
  have b0 := bel1 w (.cells #[.int .i64 fr, .int .i64 to, .slice sa ns sc, .slice la nl lc, .slice xa nx xc, .slice qa np qc, .slice oa no oc, .slice fa nf fc] 36)
  have hz0 : w.heap.size < (w.alloc (.cells #[.int .i64 fr, .int .i64 to, .slice sa ns sc, .slice la nl lc, .slice xa nx xc, .slice qa np qc, .slice oa no oc, .slice fa nf fc] 36)).heap.size := by simp
  have x7 : (w.alloc (.cells #[.int .i64 fr, .int .i64 to, .slice sa ns sc, .slice la nl lc, .slice xa nx xc, .slice qa np qc, .slice oa no oc, .slice fa nf fc] 36)).cell? ⟨w.heap.size, 7, none⟩ = some (.slice fa nf fc) := by simp
  have HX : Hid ((w.alloc (.cells #[.int .i64 fr, .int .i64 to, .slice sa ns sc, .slice la nl lc, .slice xa nx xc, .slice qa np qc, .slice oa no oc, .slice fa nf fc] 36)).cell? ⟨w.heap.size, 7, none⟩ = some (.slice fa nf fc)) := x7
  clear x7
  go_wp2_with fail
  go_loopw [3, 14] (fun s i wr => ∃ (k : Nat) (a : Option Addr) (c : Nat), k ≤ nl ∧ i = .int .i64 k ∧ s = .slice a k c ∧ Hid (Own (w.heap.size + 1) 62 2 wr (.slice a k c) (lsF 2 k G)) ∧ Below (w.heap.size + 1) (w.alloc (.cells #[.int .i64 fr, .int .i64 to, .slice sa ns sc, .slice la nl lc, .slice xa nx xc, .slice qa np qc, .slice oa no oc, .slice fa nf fc] 36)) wr) (fun _ i _ => nl - (intOf i).toNat)
  case atStart => exact ⟨0, none, 0, Nat.zero_le _, rfl, rfl, Own.nil _ _ _ _, Below.refl _ _⟩
  case round =>
    obtain ⟨k, a, c, hk, rfl, rfl, HK, hbel⟩ := hrel
    have hB : Below w.heap.size w wr := b0.trans (hbel.mono (by omega))
    have hzz : w.heap.size + 1 ≤ wr.heap.size := by have := hbel.size; simp at this; omega
    by_cases hlt : k < nl
    · obtain ⟨b, off, rfl, _, hb, hc⟩ := (hL.mono (Nat.le_refl _) hB (Nat.le_refl _)) (by omega)
      have c0 : wr.cell? ⟨b, off + k * 2, none⟩ = some (.int .i64 (G k 0)) := hc k hlt 0 (by omega)
      have c1 : wr.cell? ⟨b, off + k * 2 + 1, none⟩ = some (.int .i64 (G k 1)) := hc k hlt 1 (by omega)
      have HE : Hid (lsF 2 (k + 1) G = lsF 2 k G ++ [[G k 0, G k 1]]) := lsF_succ 2 k G
      have hl0 : Hid ((lsF 2 k G).length = k) := lsF_len 2 k G
      have HK1 : Hid (Own (w.heap.size + 1) 62 2 (wr.alloc (.cells #[.int .i64 (G k 0), .int .i64 (G k 1)] 62)) (.slice a k c) (lsF 2 k G)) := HK.out.alloc _
      clear hc HK hB
      go_wp2_with (at_builtin; go_must (refine wpList_appH _ rfl (.tmp 18) (.tmp 20) 30 rfl (w.heap.size + 1) 62 i1 _ 2 16 Try.underlying30 e1 e2 e3 e4 rfl (by decide) _ (lsF 2 k G) rfl (HK1.out.alloc _) ⟨wr.heap.size + 1, 0, none⟩ 1 1 [[G k 0, G k 1]] rfl rfl (by decide) (Wide.one rfl) (news_at [G k 0, G k 1] (by simp)) (by rw [hl0.out]; simp [maxLen]; omega) (by rw [hl0.out]; omega) (by simp; omega) ?_))
      refine Halt.mk fun v4 w4 ho4 _ hap => ?_
      obtain ⟨a4, c4, rfl⟩ := ho4.val
      have D4 := ((hbel.alloc (by omega) _).alloc (by simp; omega) _).grown hap.fr (by simp; omega) (fun k e => (HK1.out.lt e).1)
      have hl4 : (lsF 2 k G ++ [[G k 0, G k 1]]).length = k + 1 := by rw [← HE.out, lsF_len]
      rw [hl4] at ho4 ⊢
      have HK4 : Hid (Own (w.heap.size + 1) 62 2 w4 (.slice a4 (k + 1) c4) (lsF 2 (k + 1) G)) := by
        show Own _ _ _ _ _ _
        rw [HE.out]
        exact ho4
      clear ho4 hap HE HK1 hl4
      go_wp2_with fail
      go_roundw
      case rel => exact ⟨k + 1, a4, c4, by omega, by go_num, rfl, HK4, D4⟩
      case measure => simp [intOf]; omega
    · obtain rfl : k = nl := by omega
      have x7 : wr.cell? ⟨w.heap.size, 7, none⟩ = some (.slice fa nf fc) := (hbel.cell (p := ⟨w.heap.size, 7, none⟩) (by show w.heap.size < w.heap.size + 1; omega)).trans HX.out
      have hz : (lsF 2 k G).length = k := lsF_len 2 k G
      have HO : Hid (Own w.heap.size 62 2 wr (.slice a (nd (lsF 2 k G) F 0).length c) (nd (lsF 2 k G) F 0)) := by
        show Own _ _ _ _ _ _
        rw [show nd (lsF 2 k G) F 0 = lsF 2 k G from rfl, hz]
        exact HK.out.keep (by omega) fun _ _ => rfl
      have hN9 : Hid (∀ q, (nd (lsF 2 k G) F q).length ≤ k + q) := fun q => by have := nd_len (lsF 2 k G) F q; rw [lsF_len] at this; exact this
      have HZ : Hid (Value.slice a k c = .slice a (nd (lsF 2 k G) F 0).length c) := by
        show _ = _
        rw [show nd (lsF 2 k G) F 0 = lsF 2 k G from rfl, hz]
      have hBr := hB
      clear HK hbel hz hL HX
      generalize hLL : lsF 2 k G = L at *
      have HLL : Hid (lsF 2 k G = L) := hLL
      clear hLL
      go_wp2_with fail
      go_loopw [3, 26] (fun s i wq => ∃ (q : Nat) (a : Option Addr) (c : Nat), q ≤ nf ∧ i = .int .i64 q ∧ s = .slice a (nd L F q).length c ∧ Hid (Own w.heap.size 62 2 wq (.slice a (nd L F q).length c) (nd L F q)) ∧ Below w.heap.size w wq) (fun _ i _ => nf - (intOf i).toNat)
      case atStart => exact ⟨0, a, c, Nat.zero_le _, rfl, HZ.out, HO, hBr⟩
      case round =>
        obtain ⟨q, a2, c2, hq, rfl, rfl, HQ, hbq⟩ := hrel
        obtain ⟨wq, hwq⟩ : ∃ wq, wq = wr := ⟨_, rfl⟩
        subst hwq
        clear HO HZ x7
        by_cases hlq : q < nf
        · obtain ⟨b, off, rfl, _, hb, hc⟩ := (hF.mono (Nat.le_refl _) hbq (Nat.le_refl _)) (by omega)
          have c0 : wq.cell? ⟨b, off + q * 4, none⟩ = some (.int .i64 (F q 0)) := hc q hlq 0 (by omega)
          have c1 : wq.cell? ⟨b, off + q * 4 + 1, none⟩ = some (.int .i64 (F q 1)) := hc q hlq 1 (by omega)
          have c2' : wq.cell? ⟨b, off + q * 4 + 2, none⟩ = some (.int .i64 (F q 2)) := hc q hlq 2 (by omega)
          have c3 : wq.cell? ⟨b, off + q * 4 + 3, none⟩ = some (.int .i64 (F q 3)) := hc q hlq 3 (by omega)
          have hlen := hN9.out q
          have HS : Hid (nd L F (q + 1) = ndStep (nd L F q) (F q 1) (F q 2) (F q 3)) := nd_succ L F q
          have hzq : w.heap.size ≤ wq.heap.size := hbq.size
          have hb2 : Below w.heap.size w (wq.alloc (.cells #[.int .i64 (F q 0), .int .i64 (F q 1), .int .i64 (F q 2), .int .i64 (F q 3)] 64)) := hbq.alloc hbq.size _
          have HK2 : Hid (Own w.heap.size 62 2 (wq.alloc (.cells #[.int .i64 (F q 0), .int .i64 (F q 1), .int .i64 (F q 2), .int .i64 (F q 3)] 64)) (.slice a2 (nd L F q).length c2) (nd L F q)) := HQ.out.alloc _
          clear hc HQ
          by_cases h3 : F q 1 = 3
          · have h3' : (F q 1 == 3) = true := by simp [h3]
            have h3n : (F q 1 != 3) = false := by simp [h3]
            have H3 : Hid (F q 1 = 3) := h3
            have HM : Hid ([F q 2, F q 3] ∈ nd L F q ↔ ∃ u, u < (nd L F q).length ∧ fnL (nd L F q) u 0 = F q 2 ∧ fnL (nd L F q) u 1 = F q 3) := mem_two HK2.out.1 _ _
            have HN : Hid (NsAt 2 0 (wq.alloc (.cells #[.int .i64 (F q 0), .int .i64 (F q 1), .int .i64 (F q 2), .int .i64 (F q 3)] 64)) a2 (nd L F q).length (fnL (nd L F q))) := by
              obtain ⟨a9, c9, h9, h8⟩ := HK2.out.ls.val
              simp only [Value.slice.injEq] at h9
              obtain ⟨rfl, _, _⟩ := h9
              exact h8.le (Nat.zero_le _)
            clear h3
            go_wp2_with fail
            go_loopw [8, 35] (fun m i wi => ∃ (p : Nat) (bm : Bool), p ≤ (nd L F q).length ∧ i = .int .i64 p ∧ m = .bool bm ∧ Hid (bm = true ↔ ∃ u, u < p ∧ fnL (nd L F q) u 0 = F q 2 ∧ fnL (nd L F q) u 1 = F q 3) ∧ Below (wq.heap.size + 1) (wq.alloc (.cells #[.int .i64 (F q 0), .int .i64 (F q 1), .int .i64 (F q 2), .int .i64 (F q 3)] 64)) wi) (fun _ i _ => (nd L F q).length - (intOf i).toNat)
            case atStart => exact ⟨0, false, Nat.zero_le _, rfl, rfl, Iff.intro (fun h => Bool.noConfusion h) (fun ⟨_, hu, _⟩ => absurd hu (Nat.not_lt_zero _)), Below.refl _ _⟩
            case round =>
              obtain ⟨p, bm, hp, rfl, rfl, HB, hbi⟩ := hrel
              obtain ⟨wi, hwi⟩ : ∃ wi, wi = wr := ⟨_, rfl⟩
              subst hwi
              have y2 : wi.cell? ⟨wq.heap.size, 2, none⟩ = some (.int .i64 (F q 2)) := (hbi.cell (p := ⟨wq.heap.size, 2, none⟩) (by show wq.heap.size < wq.heap.size + 1; omega)).trans (by simp)
              have y3 : wi.cell? ⟨wq.heap.size, 3, none⟩ = some (.int .i64 (F q 3)) := (hbi.cell (p := ⟨wq.heap.size, 3, none⟩) (by show wq.heap.size < wq.heap.size + 1; omega)).trans (by simp)
              have hzi : wq.heap.size + 1 ≤ wi.heap.size := by have := hbi.size; simp at this; omega
              have hzl : wq.heap.size < wi.heap.size := by omega
              clear c0 c1 c2' c3
              by_cases hlp : p < (nd L F q).length
              · obtain ⟨b2, off2, rfl, _, hb9, hc2⟩ := (HN.out.mono (Nat.le_refl _) hbi (by simp)) (by omega)
                have d0 : wi.cell? ⟨b2, off2 + p * 2, none⟩ = some (.int .i64 (fnL (nd L F q) p 0)) := hc2 p hlp 0 (by omega)
                have d1 : wi.cell? ⟨b2, off2 + p * 2 + 1, none⟩ = some (.int .i64 (fnL (nd L F q) p 1)) := hc2 p hlp 1 (by omega)
                clear hc2
                have HT : Hid (∀ x : Bool, (x = true ↔ bm = true ∨ (fnL (nd L F q) p 0 = F q 2 ∧ fnL (nd L F q) p 1 = F q 3)) → (x = true ↔ ∃ u, u < p + 1 ∧ fnL (nd L F q) u 0 = F q 2 ∧ fnL (nd L F q) u 1 = F q 3)) := by
                  intro x hx
                  rw [hx, HB.out]
                  constructor
                  · rintro (⟨u, hu, h⟩ | h)
                    · exact ⟨u, by omega, h⟩
                    · exact ⟨p, by omega, h⟩
                  · rintro ⟨u, hu, h⟩
                    by_cases e : u = p
                    · subst e; exact .inr h
                    · exact .inl ⟨u, by omega, h⟩
                have hbj := hbi.alloc hzi (.cells #[.int .i64 (fnL (nd L F q) p 0), .int .i64 (fnL (nd L F q) p 1)] 62)
                generalize fnL (nd L F q) p 0 = j0 at *
                generalize fnL (nd L F q) p 1 = j1 at *
                clear HB
                cases bm with
                | true =>
                  go_wp2_with fail
                  go_roundw
                  case rel => exact ⟨p + 1, true, by omega, by go_num, rfl, HT.out true (by simp), hbj⟩
                  case measure => simp [intOf]; omega
                | false =>
                  by_cases t0 : j0 = F q 2
                  · have t0' : (j0 == F q 2) = true := by simp [t0]
                    by_cases t1 : j1 = F q 3
                    · have t1' : (j1 == F q 3) = true := by simp [t1]
                      have HT2 := HT.out true (by simp [t0, t1])
                      have HT3 : Hid (true = true ↔ ∃ u, u < p + 1 ∧ fnL (nd L F q) u 0 = F q 2 ∧ fnL (nd L F q) u 1 = F q 3) := HT2
                      clear t0 t1 HT HT2
                      go_wp2_with fail
                      go_roundw
                      case rel => exact ⟨p + 1, true, by omega, by go_num, rfl, HT3, hbj⟩
                      case measure => simp [intOf]; omega
                    · have t1' : (j1 == F q 3) = false := by simp [t1]
                      have HT3 : Hid (false = true ↔ ∃ u, u < p + 1 ∧ fnL (nd L F q) u 0 = F q 2 ∧ fnL (nd L F q) u 1 = F q 3) := HT.out false (by simp [t1])
                      clear t0 t1 HT
                      go_wp2_with fail
                      go_roundw
                      case rel => exact ⟨p + 1, false, by omega, by go_num, rfl, HT3, hbj⟩
                      case measure => simp [intOf]; omega
                  · have t0' : (j0 == F q 2) = false := by simp [t0]
                    have HT3 : Hid (false = true ↔ ∃ u, u < p + 1 ∧ fnL (nd L F q) u 0 = F q 2 ∧ fnL (nd L F q) u 1 = F q 3) := HT.out false (by simp [t0])
                    clear t0 HT
                    go_wp2_with fail
                    go_roundw
                    case rel => exact ⟨p + 1, false, by omega, by go_num, rfl, HT3, hbj⟩
                    case measure => simp [intOf]; omega
              · obtain rfl : p = (nd L F q).length := by omega
                have HK3 : Hid (Own w.heap.size 62 2 wi (.slice a2 (nd L F q).length c2) (nd L F q)) := HK2.out.mono (Nat.le_refl _) hbi (by simp)
                have B3 : Below w.heap.size w wi := hb2.trans (hbi.mono (by omega))
                have hm9 : bm = true ↔ [F q 2, F q 3] ∈ nd L F q := by rw [HM.out]; exact HB.out
                clear HB HN HK2 hb2 hbi HM
                cases bm with
                | true =>
                  have HE : Hid (nd L F (q + 1) = nd L F q) := by
                    show _ = _
                    rw [HS.out, ndStep_in (hm9.1 rfl)]
                  clear HS hm9
                  go_wp2_with fail
                  go_roundw
                  case rel => exact ⟨q + 1, a2, c2, by omega, by go_num, by rw [HE.out], by rw [HE.out]; exact HK3, B3⟩
                  case measure => simp [intOf]; omega
                | false =>
                  have HE : Hid (nd L F (q + 1) = nd L F q ++ [[F q 2, F q 3]]) := by
                    show _ = _
                    rw [HS.out, ndStep_new H3.out (fun h => by have := hm9.2 h; cases this)]
                  clear HS hm9
                  have z3 := B3.size
                  go_wp2_with (at_builtin; go_must (refine wpList_appH _ rfl (.tmp 57) (.tmp 63) 30 rfl w.heap.size 62 i1 _ 2 16 Try.underlying30 e1 e2 e3 e4 rfl (by decide) _ (nd L F q) rfl (HK3.out.alloc _) ⟨wi.heap.size, 0, none⟩ 1 1 [[F q 2, F q 3]] rfl rfl (by decide) (Wide.one rfl) (news_at [F q 2, F q 3] rfl) (by simp [maxLen]; omega) (by omega) (by simp; omega) ?_))
                  refine Halt.mk fun v4 w4 ho4 _ hap => ?_
                  obtain ⟨a4, c4, rfl⟩ := ho4.val
                  have D4 : Below w.heap.size w w4 := (B3.alloc (by omega) _).grown hap.fr (by simp; omega) (fun k e => (HK3.out.lt e).1)
                  have HK4 : Hid (Own w.heap.size 62 2 w4 (.slice a4 (nd L F (q + 1)).length c4) (nd L F (q + 1))) := by
                    show Own _ _ _ _ _ _
                    rw [HE.out]
                    exact ho4
                  have hl4 : (nd L F q ++ [[F q 2, F q 3]]).length = (nd L F (q + 1)).length := by rw [HE.out]
                  rw [hl4]
                  clear ho4 hap HE HK3 hl4
                  go_wp2_with fail
                  go_roundw
                  case rel => exact ⟨q + 1, a4, c4, by omega, by go_num, rfl, HK4, D4⟩
                  case measure => simp [intOf]; omega
          · have h3' : (F q 1 == 3) = false := by simp [h3]
            have h3n : (F q 1 != 3) = true := by simp [h3]
            have HE : Hid (nd L F (q + 1) = nd L F q) := by
              show _ = _
              rw [HS.out, ndStep_no h3]
            clear h3 HS
            go_wp2_with fail
            go_roundw
            case rel => exact ⟨q + 1, a2, c2, by omega, by go_num, by rw [HE.out], by rw [HE.out]; exact HK2, hb2⟩
            case measure => simp [intOf]; omega
        · obtain rfl : q = nf := by omega
          go_wp2_with fail
          go_ret
          exact ⟨_, rfl, by rw [HLL.out]; exact HQ.out, hbq⟩

end Go.Proofs.Ytpghgdnhfhdgmaa
