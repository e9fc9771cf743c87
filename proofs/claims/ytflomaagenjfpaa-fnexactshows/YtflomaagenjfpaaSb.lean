import Derived.Test.YtflomaagenjfpaaQb
namespace Go.Proofs.Ytflomaagenjfpaa
open Go.RowKit

/-- what lies there while all are asked -/
def AskM (r : Rw) (w : World) (xa fa oa ka : Option Addr) (xc fc oc kc : Nat) (v4 v5 : Value) (wr : World) (m : Nat) : Prop :=
  ∃ (S W : Nat → Int) (o4 o5 : Option Nat), Ask r S W ∧ m = roomN r.nn S + roomN r.nn W ∧ Below w.heap.size w wr ∧ Box wr w.heap.size 29 #[.slice xa r.nn xc, .slice fa r.nf fc, .slice oa r.no oc, .slice ka r.nk kc] ∧ QAt wr v4 r.nn W o4 ∧ QAt wr v5 r.nn S o5 ∧ (∀ g, o4 = some g → w.heap.size < g) ∧ (∀ g, o5 = some g → w.heap.size < g)

/-- what both answers are -/
def BothR (r : Rw) (w : World) (A : Array Value) (e : Ending) (w' : World) : Prop :=
  ∃ (v4 v5 : Value) (S : Nat → Int) (o4 o5 : Option Nat), e = .returned (.tuple #[v4, v5]) ∧ Low r.nn S ∧ Least r S ∧ Below w.heap.size w w' ∧ Box w' w.heap.size 29 A ∧ QAt w' v4 r.nn (wantF r S) o4 ∧ QAt w' v5 r.nn S o5 ∧ (∀ g, o4 = some g → w.heap.size < g) ∧ (∀ g, o5 = some g → w.heap.size < g)

set_option maxRecDepth 100000 in
set_option maxHeartbeats 16000000 in
theorem both29 (r : Rw) (xa fa oa ka : Option Addr) (xc fc oc kc : Nat) (w : World) (hr : Good r) (h : RwIn 0 w r xa fa oa ka) :
    Calls Try.prog 29 #[.agg #[.slice xa r.nn xc, .slice fa r.nf fc, .slice oa r.no oc, .slice ka r.nk kc]] w fun e w' => BothR r w #[.slice xa r.nn xc, .slice fa r.nf fc, .slice oa r.no oc, .slice ka r.nk kc] e w' := by
  have HG : Hid (Good r) := hr
  have H : Hid (RwIn 0 w r xa fa oa ka) := h
  have h60 : r.nn ≤ 60 := hr.1
  have hnk : (r.nk : Int) = (r.nn : Int) := by have := hr.2.2.2.2.2; omega
  have hmk := make_rows (P := Try.prog) 22 3 _ 8 1 Try.underlying22 infoInt r.nn (by omega) (by omega)
  simp only [Nat.mul_one] at hmk
  clear hr h
  have HNK : Hid (r.nk = r.nn) := by have := HG.out.2.2.2.2.2; exact this
  have hnk' : r.nn ≤ r.nk := by omega
  clear hnk
  have M0 : Hid (∃ w3, w3 = ((w.alloc (.cells #[.slice xa r.nn xc, .slice fa r.nf fc, .slice oa r.no oc, .slice ka r.nk kc] 29)).alloc (.cells (mk0 (.int .i64 0) r.nn) 3)).alloc (.cells (mk0 (.int .i64 0) r.nn) 3) ∧ Below w.heap.size w w3 ∧ Box w3 w.heap.size 29 #[.slice xa r.nn xc, .slice fa r.nf fc, .slice oa r.no oc, .slice ka r.nk kc] ∧ QAt w3 (.slice (some ⟨w.heap.size + 1, 0, none⟩) r.nn r.nn) r.nn (fun _ => 0) (some (w.heap.size + 1)) ∧ QAt w3 (.slice (some ⟨w.heap.size + 1 + 1, 0, none⟩) r.nn r.nn) r.nn (fun j => if j < 0 then lampF (r.T j) 0 else 0) (some (w.heap.size + 1 + 1)) ∧ (∀ g, (some (w.heap.size + 1)) = some g → w.heap.size < g) ∧ (∀ g, (some (w.heap.size + 1 + 1)) = some g → w.heap.size < g)) := by
    refine ⟨_, rfl, bel3 w _ _ _, ((Box.new w 29 _).alloc _).alloc _, ?_, ?_, fun g hg => ?_, fun g hg => ?_⟩
    · have := (QAt.made (w.alloc (.cells #[.slice xa r.nn xc, .slice fa r.nf fc, .slice oa r.no oc, .slice ka r.nk kc] 29)) r.nn).alloc (.cells (mk0 (.int .i64 0) r.nn) 3)
      simpa using this
    · have := QAt.made ((w.alloc (.cells #[.slice xa r.nn xc, .slice fa r.nf fc, .slice oa r.no oc, .slice ka r.nk kc] 29)).alloc (.cells (mk0 (.int .i64 0) r.nn) 3)) r.nn
      simpa using this
    · simp only [Option.some.injEq] at hg
      omega
    · simp only [Option.some.injEq] at hg
      omega
  go_enter Try.func29, Try.ntmps29
  go_wp2_with fail
  obtain ⟨w3, hw3, M0⟩ := M0.out
  rw [← hw3]
  have M0 : Hid (Below w.heap.size w w3 ∧ Box w3 w.heap.size 29 #[.slice xa r.nn xc, .slice fa r.nf fc, .slice oa r.no oc, .slice ka r.nk kc] ∧ QAt w3 (.slice (some ⟨w.heap.size + 1, 0, none⟩) r.nn r.nn) r.nn (fun _ => 0) (some (w.heap.size + 1)) ∧ QAt w3 (.slice (some ⟨w.heap.size + 1 + 1, 0, none⟩) r.nn r.nn) r.nn (fun j => if j < 0 then lampF (r.T j) 0 else 0) (some (w.heap.size + 1 + 1)) ∧ (∀ g, (some (w.heap.size + 1)) = some g → w.heap.size < g) ∧ (∀ g, (some (w.heap.size + 1 + 1)) = some g → w.heap.size < g)) := M0
  clear hw3 hmk
  go_loopw [23] (fun i wr => ∃ k : Nat, k ≤ r.nn ∧ i = .int .i64 k ∧ Hid (Below w.heap.size w wr ∧ Box wr w.heap.size 29 #[.slice xa r.nn xc, .slice fa r.nf fc, .slice oa r.no oc, .slice ka r.nk kc] ∧ QAt wr (.slice (some ⟨w.heap.size + 1, 0, none⟩) r.nn r.nn) r.nn (fun _ => 0) (some (w.heap.size + 1)) ∧ QAt wr (.slice (some ⟨w.heap.size + 1 + 1, 0, none⟩) r.nn r.nn) r.nn (fun j => if j < k then lampF (r.T j) 0 else 0) (some (w.heap.size + 1 + 1)) ∧ (∀ g, (some (w.heap.size + 1)) = some g → w.heap.size < g) ∧ (∀ g, (some (w.heap.size + 1 + 1)) = some g → w.heap.size < g))) (fun i _ => r.nn - (intOf i).toNat)
  case atStart => exact ⟨0, Nat.zero_le _, rfl, M0⟩
  case round =>
    obtain ⟨k, hk, rfl, M⟩ := hrel
    clear M0
    by_cases hlt : k < r.nn
    · have hk0 : (0 : Int) ≤ (k : Int) := by omega
      have hkn : (k : Int) < (r.nn : Int) := by omega
      have hkk : (k : Int) < (r.nk : Int) := by omega
      have hw := H.out.mono (Nat.le_refl _) M.out.1 (Nat.le_refl _)
      obtain ⟨b, off, rfl, _, hb, hc⟩ := hw.k (by omega)
      obtain ⟨ra, rc, c0, hv⟩ := hc k (by omega)
      rw [HG.out.2.2.1 k hlt] at c0 hv
      have HV : Hid (VsAt 1 0 wr ra 4 (boolF (r.T k))) := hv
      have a3 : wr.cell? ⟨w.heap.size, 3, none⟩ = some (.slice (some ⟨b, off, none⟩) r.nk kc) := M.out.2.1.cell 3
      obtain ⟨d0, d1⟩ := M.out.2.2.2.1.at0 hlt
      clear hw hc hv
      go_wp2_with fail
      refine (lamp33 ra rc (r.T k) 0 _ (by omega) (by omega) HV.out).mono ?_
      rintro e w1 ⟨rfl, hw⟩
      have hw := hw.symm
      subst hw
      have M2 : Hid (Below w.heap.size w (wr.setCell ⟨w.heap.size + 1 + 1, k, none⟩ (.int .i64 (lampF (r.T k) 0))) ∧ Box (wr.setCell ⟨w.heap.size + 1 + 1, k, none⟩ (.int .i64 (lampF (r.T k) 0))) w.heap.size 29 #[.slice xa r.nn xc, .slice fa r.nf fc, .slice oa r.no oc, .slice (some ⟨b, off, none⟩) r.nk kc] ∧ QAt (wr.setCell ⟨w.heap.size + 1 + 1, k, none⟩ (.int .i64 (lampF (r.T k) 0))) (.slice (some ⟨w.heap.size + 1, 0, none⟩) r.nn r.nn) r.nn (fun _ => 0) (some (w.heap.size + 1)) ∧ QAt (wr.setCell ⟨w.heap.size + 1 + 1, k, none⟩ (.int .i64 (lampF (r.T k) 0))) (.slice (some ⟨w.heap.size + 1 + 1, 0, none⟩) r.nn r.nn) r.nn (fun j => if j < k + 1 then lampF (r.T j) 0 else 0) (some (w.heap.size + 1 + 1)) ∧ (∀ g, (some (w.heap.size + 1)) = some g → w.heap.size < g) ∧ (∀ g, (some (w.heap.size + 1 + 1)) = some g → w.heap.size < g)) := by
        obtain ⟨m1, m2, m3, m4, m5, m6⟩ := M.out
        refine ⟨m1.setCell (by show w.heap.size ≤ w.heap.size + 1 + 1; omega) _, m2.other (by show w.heap.size ≠ w.heap.size + 1 + 1; omega) _, m3.other (fun g hg => by simp only [Option.some.injEq] at hg; show g ≠ w.heap.size + 1 + 1; omega) _, m4.store0 hlt _ fun j hj => ?_, m5, m6⟩
        by_cases e : j = k
        · subst e
          rw [updI_same, if_pos (by omega)]
        · rw [updI_other _ _ e]
          by_cases e2 : j < k
          · rw [if_pos e2, if_pos (by omega)]
          · rw [if_neg e2, if_neg (by omega)]
      clear M
      go_wp2_with fail
      go_roundw
      case rel => exact ⟨k + 1, by omega, by go_num, M2⟩
      case measure => simp [intOf]; omega
    · have hkn : k = r.nn := by omega
      have MM : Hid (AskM r w xa fa oa ka xc fc oc kc (.slice (some ⟨w.heap.size + 1, 0, none⟩) r.nn r.nn) (.slice (some ⟨w.heap.size + 1 + 1, 0, none⟩) r.nn r.nn) wr (roomN r.nn (fun i => lampF (r.T i) 0) + roomN r.nn (fun _ => 0))) := by
        obtain ⟨m1, m2, m3, m4, m5, m6⟩ := M.out
        exact ⟨_, _, _, _, Ask.begin HG.out, rfl, m1, m2, m3, m4.congr fun j hj => by rw [if_pos (by omega)], m5, m6⟩
      clear M
      have hge : ¬ ((k : Int) < (r.nn : Int)) := by omega
      go_wp2_with fail
      clear hge hkn hlt hk
      go_loopw [4, 5] (fun v4 v5 wr => ∃ m, AskM r w xa fa oa ka xc fc oc kc v4 v5 wr m) (fun v4 v5 wr => leastN (AskM r w xa fa oa ka xc fc oc kc v4 v5 wr))
      case atStart => exact ⟨_, MM.out⟩
      case round =>
        obtain ⟨S, W, o4, o5, hA, hm, m1, m2, m3, m4, m5, m6⟩ := leastN_spec hrel
        obtain ⟨a4, c4, rfl⟩ := m3.val
        obtain ⟨a5, c5, rfl⟩ := m4.val
        have HA : Hid (Ask r S W) := hA
        have HL : Hid (roomN r.nn S + roomN r.nn W = leastN (AskM r w xa fa oa ka xc fc oc kc (.slice a4 r.nn c4) (.slice a5 r.nn c5) wr)) := hm.symm
        have M : Hid (InM r w #[.slice xa r.nn xc, .slice fa r.nf fc, .slice oa r.no oc, .slice ka r.nk kc] (.slice a4 r.nn c4) (.slice a5 r.nn c5) S W o4 o5 wr 0 0 (.slice none 0 0) (.slice none 0 0) none none) := ⟨m1, m2, m3, m4, QAt.nil _ _, QAt.nil _ _, m5, m6, fun g e => (nomatch e), fun g e => (nomatch e), fun g e => (nomatch e), fun g e => (nomatch e)⟩
        clear hrel hA hm m1 m2 m3 m4 m5 m6 MM
        go_wp2_with fail
        go_loopw [7, 8, 9, 38] (fun v7 v8 b9 i wi => ∃ (k : Nat) (o7 o8 : Option Nat), k ≤ r.nn ∧ i = .int .i64 k ∧ b9 = .bool (allB (sameF r S W) k) ∧ Hid (InM r w #[.slice xa r.nn xc, .slice fa r.nf fc, .slice oa r.no oc, .slice ka r.nk kc] (.slice a4 r.nn c4) (.slice a5 r.nn c5) S W o4 o5 wi k k v7 v8 o7 o8)) (fun _ _ _ i _ => r.nn - (intOf i).toNat)
        case atStart => exact ⟨0, none, none, Nat.zero_le _, rfl, rfl, M⟩
        case round =>
          obtain ⟨k, o7, o8, hk, rfl, rfl, MI⟩ := hrel
          clear M
          by_cases hlt : k < r.nn
          · have hk0 : (0 : Int) ≤ (k : Int) := by omega
            have hkn : (k : Int) < (r.nn : Int) := by omega
            have hkk : (k : Int) < (r.nk : Int) := by omega
            obtain ⟨g4, f4, ho4, hr4, z4, n4, w4, e4⟩ := MI.out.q4.addr (by omega)
            subst hr4
            obtain ⟨g5, f5, ho5, hr5, z5, n5, w5, e5⟩ := MI.out.q5.addr (by omega)
            subst hr5
            clear ho4 ho5 z4 z5 n4 n5 w4 w5 e4 e5
            obtain ⟨a7, c7, hv7⟩ := MI.out.q7.val
            subst hv7
            obtain ⟨a8, c8, hv8⟩ := MI.out.q8.val
            subst hv8
            have hw := H.out.mono (Nat.le_refl _) MI.out.bel (Nat.le_refl _)
            obtain ⟨b, off, hka, _, hb, hc⟩ := hw.k (by omega)
            subst hka
            obtain ⟨ra, rc, c0, hv⟩ := hc k (by omega)
            rw [HG.out.2.2.1 k hlt] at c0 hv
            have HW : Hid (RwIn 0 wr r xa fa oa (some ⟨b, off, none⟩) ∧ VsAt 1 0 wr ra 4 (boolF (r.T k)) ∧ wr.cell? ⟨b, off + k, none⟩ = some (.slice ra ((4 : Nat)) rc) ∧ b < wr.heap.size) := ⟨hw, hv, c0, hb⟩
            clear hw hc hv c0 hb
            have a0 : wr.cell? ⟨w.heap.size, 0, none⟩ = some (.slice xa r.nn xc) := MI.out.box.cell 0
            have a1 : wr.cell? ⟨w.heap.size, 1, none⟩ = some (.slice fa r.nf fc) := MI.out.box.cell 1
            have a2 : wr.cell? ⟨w.heap.size, 2, none⟩ = some (.slice oa r.no oc) := MI.out.box.cell 2
            have a3 : wr.cell? ⟨w.heap.size, 3, none⟩ = some (.slice (some ⟨b, off, none⟩) r.nk kc) := MI.out.box.cell 3
            go_wp2_with fail
            clear a0 a1 a2 a3
            refine (want34 r xa fa oa (some ⟨b, off, none⟩) xc fc oc kc (some ⟨g5, f5, none⟩) c5 S k _ HG.out HA.out.low hlt HW.out.1 (MI.out.q5.vs (fun _ _ => Nat.zero_le _))).mono ?_
            rintro e w1 ⟨rfl, hb1⟩
            have M1 : Hid (InM r w #[.slice xa r.nn xc, .slice fa r.nf fc, .slice oa r.no oc, .slice (some ⟨b, off, none⟩) r.nk kc] (.slice (some ⟨g4, f4, none⟩) r.nn c4) (.slice (some ⟨g5, f5, none⟩) r.nn c5) S W o4 o5 w1 k k (.slice a7 k c7) (.slice a8 k c8) o7 o8) := MI.out.mono hb1
            have HV : Hid (VsAt 1 0 w1 ra 4 (boolF (r.T k))) := HW.out.2.1.mono (Nat.le_refl _) hb1 (Nat.le_refl _)
            have c0 : w1.cell? ⟨b, off + k, none⟩ = some (.slice ra ((4 : Nat)) rc) := cell_keep hb1 HW.out.2.2.2 HW.out.2.2.1
            have a3 : w1.cell? ⟨w.heap.size, 3, none⟩ = some (.slice (some ⟨b, off, none⟩) r.nk kc) := M1.out.box.cell 3
            clear hb1 HW MI
            go_wp2_with fail
            clear c0 a3
            refine (lamp33 ra rc (r.T k) (wantF r S k) _ (wantF_ge HG.out HA.out.low hlt) (wantF_le r S k) HV.out).mono ?_
            rintro e w2 ⟨he, hw2⟩
            have he : e = .returned (.int .i64 (showF r S k)) := he
            subst he
            have hw2 := hw2.symm
            subst hw2
            obtain ⟨_, _, _, hr4, _, _, _, e4⟩ := M1.out.q4.addr (by omega)
            simp only [Option.some.injEq, Addr.mk.injEq, and_true] at hr4
            obtain ⟨rfl, rfl⟩ := hr4
            have d4 : w1.cell? ⟨g4, f4 + k, none⟩ = some (.int .i64 (W k)) := e4 k hlt
            obtain ⟨_, _, _, hr5, _, _, _, e5⟩ := M1.out.q5.addr (by omega)
            simp only [Option.some.injEq, Addr.mk.injEq, and_true] at hr5
            obtain ⟨rfl, rfl⟩ := hr5
            have d5 : w1.cell? ⟨g5, f5 + k, none⟩ = some (.int .i64 (S k)) := e5 k hlt
            clear e4 e5
            obtain ⟨x, hx⟩ : ∃ x, Hid (wantF r S k = x) := ⟨_, rfl⟩
            obtain ⟨y, hy⟩ : ∃ y, Hid (showF r S k = y) := ⟨_, rfl⟩
            rw [hx.out, hy.out]
            obtain ⟨b9, hb9⟩ : ∃ b9, Hid (allB (sameF r S W) k = b9) := ⟨_, rfl⟩
            rw [hb9.out]
            have HN : Hid (allB (sameF r S W) (k + 1) = (b9 && (decide (y = S k) && decide (x = W k)))) := by
              show (allB (sameF r S W) k && (decide (showF r S k = S k) && decide (wantF r S k = W k))) = _
              rw [hx.out, hy.out, hb9.out]
            clear hb9
            have hcase : (b9 = false ∧ Hid (allB (sameF r S W) (k + 1) = false)) ∨ (b9 = true ∧ (y == S k) = false ∧ Hid (allB (sameF r S W) (k + 1) = false)) ∨ (b9 = true ∧ y = S k ∧ (x == W k) = false ∧ Hid (allB (sameF r S W) (k + 1) = false)) ∨ (b9 = true ∧ y = S k ∧ x = W k ∧ Hid (allB (sameF r S W) (k + 1) = true)) := by
              have hn := HN.out
              cases b9
              · exact .inl ⟨rfl, (by simpa using hn : allB (sameF r S W) (k + 1) = false)⟩
              · by_cases e1 : y = S k
                · by_cases e2 : x = W k
                  · exact .inr (.inr (.inr ⟨rfl, e1, e2, by rw [Hid, hn]; simp [e1, e2]⟩))
                  · exact .inr (.inr (.inl ⟨rfl, e1, by simpa using e2, by rw [Hid, hn]; simp [e2]⟩))
                · exact .inr (.inl ⟨rfl, by simpa using e1, by rw [Hid, hn]; simp [e1]⟩)
            have hlen : k + 1 ≤ 1000000 := by omega
            clear HN HV
            rcases hcase with ⟨rfl, HE⟩ | ⟨rfl, h1, HE⟩ | ⟨rfl, h1, h2, HE⟩ | ⟨rfl, h1, h2, HE⟩
            all_goals
              (try subst h1)
              (try subst h2)
              go_wp2_with (at_builtin; go_must (refine wpList_qapp _ rfl _ _ rfl (.slice a7 k c7) k (wantF r S) o7 rfl (M1.out.q7.alloc _) (some ⟨w1.heap.size, 0, none⟩) 1 1 _ rfl (src1 w1 _ (fun _ => _) rfl) hlen (Halt.mk ?_)))
              intro v7 w2 o7' q7 ho7 hg7
              have q7' := q7 (wantF r S) (fun _ _ => rfl) hx.out
              have M2 : Hid (InM r w #[.slice xa r.nn xc, .slice fa r.nf fc, .slice oa r.no oc, .slice (some ⟨b, off, none⟩) r.nk kc] (.slice (some ⟨g4, f4, none⟩) r.nn c4) (.slice (some ⟨g5, f5, none⟩) r.nn c5) S W o4 o5 w2 (k + 1) k v7 (.slice a8 k c8) o7' o8) := (M1.out.mono (bel1 _ _)).app7 q7' (by simpa using ho7) hg7
              obtain ⟨a7', c7', hv7⟩ := q7'.val
              subst hv7
              clear q7 q7' ho7 hg7
              go_wp2_with (at_builtin; go_must (refine wpList_qapp _ rfl _ _ rfl (.slice a8 k c8) k (showF r S) o8 rfl (M2.out.q8.alloc _) (some ⟨w2.heap.size, 0, none⟩) 1 1 _ rfl (src1 w2 _ (fun _ => _) rfl) hlen (Halt.mk ?_)))
              intro v8 w3 o8' q8 ho8 hg8
              have q8' := q8 (showF r S) (fun _ _ => rfl) hy.out
              have M3 : Hid (InM r w #[.slice xa r.nn xc, .slice fa r.nf fc, .slice oa r.no oc, .slice (some ⟨b, off, none⟩) r.nk kc] (.slice (some ⟨g4, f4, none⟩) r.nn c4) (.slice (some ⟨g5, f5, none⟩) r.nn c5) S W o4 o5 w3 (k + 1) (k + 1) (.slice a7' (k + 1) c7') v8 o7' o8') := (M2.out.mono (bel1 _ _)).app8 q8' (by simpa using ho8) hg8
              obtain ⟨a8', c8', hv8⟩ := q8'.val
              subst hv8
              clear q8 q8' ho8 hg8 M1 M2
              go_wp2_with fail
              go_roundw
              case rel => exact ⟨k + 1, o7', o8', by omega, by go_num, by rw [HE.out], M3⟩
              case measure => simp [intOf]; omega
          · have hkn : k = r.nn := by omega
            obtain ⟨a7, c7, hv7⟩ := MI.out.q7.val
            subst hv7
            obtain ⟨a8, c8, hv8⟩ := MI.out.q8.val
            subst hv8
            have hge : ¬ ((k : Int) < (r.nn : Int)) := by omega
            cases hB : allB (sameF r S W) k with
            | true =>
              have HR : Hid (Low r.nn S ∧ Least r S ∧ Below w.heap.size w wr ∧ Box wr w.heap.size 29 #[.slice xa r.nn xc, .slice fa r.nf fc, .slice oa r.no oc, .slice ka r.nk kc] ∧ QAt wr (.slice a4 r.nn c4) r.nn (wantF r S) o4 ∧ QAt wr (.slice a5 r.nn c5) r.nn S o5 ∧ (∀ g, o4 = some g → w.heap.size < g) ∧ (∀ g, o5 = some g → w.heap.size < g)) := by
                obtain ⟨m1, m2, m3, m4, m5, m6, l4, l5, l7, l8, s7, s8⟩ := MI.out
                rw [hkn] at hB
                have hall : ∀ i, i < r.nn → showF r S i = S i ∧ wantF r S i = W i := fun i hi => by
                  have := allB_iff.1 hB i hi
                  simpa [sameF] using this
                exact ⟨HA.out.low, HA.out.least fun i hi => (hall i hi).1, m1, m2, m3.congr fun i hi => (hall i hi).2.symm, m4, l4, l5⟩
              clear MI HL
              go_wp2_with fail
              go_ret2
              exact ⟨_, _, S, o4, o5, rfl, HR.out⟩
            | false =>
              have HR : Hid (AskM r w xa fa oa ka xc fc oc kc (.slice a7 k c7) (.slice a8 k c8) wr (roomN r.nn (showF r S) + roomN r.nn (wantF r S))) := by
                obtain ⟨m1, m2, m3, m4, m5, m6, l4, l5, l7, l8, s7, s8⟩ := MI.out
                exact ⟨_, _, o7, o8, HA.out.next HG.out, rfl, m1, m2, by rw [hkn] at m5 ⊢; exact m5, by rw [hkn] at m6 ⊢; exact m6, l7, l8⟩
              have HT : Hid (roomN r.nn (showF r S) + roomN r.nn (wantF r S) < roomN r.nn S + roomN r.nn W) := HA.out.less HG.out (by rw [← hkn]; exact hB)
              clear MI
              go_wp2_with fail
              go_roundw
              case rel => exact ⟨_, HR.out⟩
              case measure => exact Nat.lt_of_le_of_lt (leastN_le HR.out) (Nat.lt_of_lt_of_eq HT.out HL.out)

end Go.Proofs.Ytflomaagenjfpaa
