import Derived.Test.YtflomaagenjfpaaMo
namespace Go.Proofs.Ytflomaagenjfpaa
open Go.RowKit


set_option maxRecDepth 100000 in
set_option maxHeartbeats 4000000 in
theorem row7 (r : Rw) (xa fa oa ka : Option Addr) (xc fc oc kc : Nat) (w : World) (hs : r.small) (h : RwIn 0 w r xa fa oa ka) :
    Calls Try.prog 7 #[.agg #[.slice xa r.nn xc, .slice fa r.nf fc, .slice oa r.no oc, .slice ka r.nk kc]] w fun e w' => e = .returned (.int .i64 (rowF r)) ∧ Below w.heap.size w w' := by
  obtain ⟨nn, X, nf, F, no, O, nk, K, T⟩ := r
  obtain ⟨s1, s2, s3, s4, s5⟩ := hs
  dsimp only at s1 s2 s3 s4 s5 ⊢
  have HS : Hid (∀ i, i < nk → K i ≤ 1048576) := s5
  have B0 := bel1 w (.cells #[.slice xa nn xc, .slice fa nf fc, .slice oa no oc, .slice ka nk kc] 29)
  have H : Hid (RwIn 0 (w.alloc (.cells #[.slice xa nn xc, .slice fa nf fc, .slice oa no oc, .slice ka nk kc] 29)) (⟨nn, X, nf, F, no, O, nk, K, T⟩ : Rw) xa fa oa ka) := h.mono (Nat.le_refl _) B0 (Nat.le_refl _)
  have HX : Hid (Box (w.alloc (.cells #[.slice xa nn xc, .slice fa nf fc, .slice oa no oc, .slice ka nk kc] 29)) w.heap.size 29 #[.slice xa nn xc, .slice fa nf fc, .slice oa no oc, .slice ka nk kc]) := Box.new w 29 _
  have HB : Hid (Below w.heap.size w (w.alloc (.cells #[.slice xa nn xc, .slice fa nf fc, .slice oa no oc, .slice ka nk kc] 29))) := B0
  have L0 : w.heap.size < (w.alloc (.cells #[.slice xa nn xc, .slice fa nf fc, .slice oa no oc, .slice ka nk kc] 29)).heap.size := by simp
  clear h s5 B0
  go_enter Try.func7, Try.ntmps7
  cases hE : evenB (⟨nn, X, nf, F, no, O, nk, K, T⟩ : Rw) with
  | false =>
    have hR : rowF (⟨nn, X, nf, F, no, O, nk, K, T⟩ : Rw) = 1 := by simp [rowF, hE]
    rw [hR]
    by_cases h1 : nn ≤ 60
    · by_cases h2 : nf = nn
      · by_cases h3 : no = nn
        · have h4 : nk ≠ nn := by
            intro h4
            simp [evenB, h1, h2, h3, h4] at hE
          have h2 := h2.symm
          subst h2
          have h3 := h3.symm
          subst h3
          have h4' : ((nk : Int) != (nn : Int)) = true := by simp; omega
          go_wp2_with fail
          go_ret
          exact ⟨rfl, HB.out⟩
        · have h2 := h2.symm
          subst h2
          have h3' : ((no : Int) != (nn : Int)) = true := by simp; omega
          go_wp2_with fail
          go_ret
          exact ⟨rfl, HB.out⟩
      · have h2' : ((nf : Int) != (nn : Int)) = true := by simp; omega
        go_wp2_with fail
        go_ret
        exact ⟨rfl, HB.out⟩
    · go_wp2_with fail
      go_ret
      exact ⟨rfl, HB.out⟩
  | true =>
    obtain ⟨h1, h2, h3, h4⟩ : nn ≤ 60 ∧ nf = nn ∧ no = nn ∧ nk = nn := by simpa [evenB] using hE
    have h1' : (nn : Int) ≤ 60 := by omega
    have h2 := h2.symm
    subst h2
    have h3 := h3.symm
    subst h3
    have h4 := h4.symm
    subst h4
    go_wp2_with fail
    generalize hw0 : w.alloc (.cells #[.slice xa nn xc, .slice fa nn fc, .slice oa nn oc, .slice ka nn kc] 29) = w0 at H HX HB L0 ⊢
    go_loop [37, 4, 5] (fun i _ _ => ∃ q : Nat, q ≤ nn ∧ i = .int .i64 q ∧ Hid (∀ i, i < q → nextB (⟨nn, X, nn, F, nn, O, nn, K, T⟩ : Rw) i = true)) (fun i _ _ => nn - (intOf i).toNat)
    case atStart => exact ⟨0, Nat.zero_le _, rfl, fun i hi => absurd hi (Nat.not_lt_zero _)⟩
    case round =>
      obtain ⟨q, hq, rfl, HQ⟩ := hrel
      by_cases hlt : q < nn
      · obtain ⟨b, off, rfl, _, hb, hc⟩ := H.out.x (show 0 < nn by omega)
        have c0 : w0.cell? ⟨b, off + q, none⟩ = some (.int .i64 (X q)) := by have := hc q hlt 0 (by omega); rwa [Nat.mul_one] at this
        obtain ⟨b2, off2, rfl, _, hb2, hc2⟩ := H.out.f (show 0 < nn by omega)
        have c1 : w0.cell? ⟨b2, off2 + q, none⟩ = some (.int .i64 (F q)) := by have := hc2 q (by omega) 0 (by omega); rwa [Nat.mul_one] at this
        have a1 : w0.cell? ⟨w.heap.size, 1, none⟩ = some _ := HX.out.cell 1
        clear hc hc2
        have hq0 : (0 : Int) ≤ (q : Int) := by omega
        have hqn : (q : Int) < (nn : Int) := by omega
        go_wp2_with fail
        refine (in22 (X q) (-1) ((nn : Int) - 1) _).mono ?_
        rintro e w1 ⟨he, hw⟩
        have hw := hw.symm
        subst hw
        cases hB : inB (X q) (-1) ((nn : Int) - 1) with
        | false =>
          rw [hB] at he
          subst he
          go_wp2_with fail
          go_ret
          exact ⟨by rw [rowF, hE, allB_no hlt (by simp [nextB, hB])]; rfl, HB.out⟩
        | true =>
          rw [hB] at he
          subst he
          go_wp2_with fail
          refine (in22 (F q) 0 1000000 _).mono ?_
          rintro e w2 ⟨he, hw⟩
          have hw := hw.symm
          subst hw
          cases hB2 : inB (F q) 0 1000000 with
          | false =>
            rw [hB2] at he
            subst he
            go_wp2_with fail
            go_ret
            exact ⟨by rw [rowF, hE, allB_no hlt (by simp [nextB, hB, hB2])]; rfl, HB.out⟩
          | true =>
            rw [hB2] at he
            subst he
            have HQ2 : Hid (∀ i, i < q + 1 → nextB (⟨nn, X, nn, F, nn, O, nn, K, T⟩ : Rw) i = true) := fun i hi => by
              by_cases e : i = q
              · subst e
                simp [nextB, hB, hB2]
              · exact HQ.out i (by omega)
            go_wp2_with fail
            go_round
            case rel => exact ⟨q + 1, by omega, by go_num, HQ2⟩
            case measure => simp [intOf]; omega
      · have hqe : nn = q := by omega
        subst hqe
        have hA : allB (nextB (⟨nn, X, nn, F, nn, O, nn, K, T⟩ : Rw)) nn = true := allB_iff.2 HQ.out
        have a3 : w0.cell? ⟨w.heap.size, 3, none⟩ = some _ := HX.out.cell 3
        go_wp2_with fail
        go_loop [60, 7] (fun i _ => ∃ q : Nat, q ≤ nn ∧ i = .int .i64 q ∧ Hid (∀ i, i < q → decide (K i = 4) = true)) (fun i _ => nn - (intOf i).toNat)
        case atStart => exact ⟨0, Nat.zero_le _, rfl, fun i hi => absurd hi (Nat.not_lt_zero _)⟩
        case round =>
          obtain ⟨q, hq, rfl, HQ⟩ := hrel
          by_cases hlt : q < nn
          · obtain ⟨b, off, rfl, _, hb, hc⟩ := H.out.k (show 0 < nn by omega)
            obtain ⟨ra, rc, c0, _⟩ := hc q hlt
            clear hc
            have hk := HS.out q hlt
            have hq0 : (0 : Int) ≤ (q : Int) := by omega
            have hqn : (q : Int) < (nn : Int) := by omega
            by_cases hk4 : K q = 4
            · have HQ2 : Hid (∀ i, i < q + 1 → decide (K i = 4) = true) := fun i hi => by
                by_cases e : i = q
                · subst e
                  simp [hk4]
                · exact HQ.out i (by omega)
              go_wp2_with fail
              go_round
              case rel => exact ⟨q + 1, by omega, by go_num, HQ2⟩
              case measure => simp [intOf]; omega
            · go_wp2_with fail
              go_ret
              exact ⟨by rw [rowF, hE, hA, allB_no hlt (by simp [hk4])]; rfl, HB.out⟩
          · have hqe : nn = q := by omega
            subst hqe
            have hA2 : allB (fun i => decide (K i = 4)) nn = true := allB_iff.2 HQ.out
            go_wp2_with fail
            go_ret
            exact ⟨by rw [rowF, hE, hA, hA2]; rfl, HB.out⟩

end Go.Proofs.Ytflomaagenjfpaa
