import Derived.Test.YtpghgdnhfhdgmaaTi
import Derived.Test.YtpghgdnhfhdgmaaEs
namespace Go.Proofs.Ytpghgdnhfhdgmaa
open Go.RowKit

/-- the rows of a table that is being built -/
def OutS (B : Nat) (w : World) (v : Value) (k n : Nat) (T : Nat → Nat → Int) : Prop :=
  ∃ xs : List Value, w.ownsRow B 24 1 v k xs ∧ ∀ i, i < k → ∃ ra rc B', xs[i]? = some (.slice ra n rc) ∧ B ≤ B' ∧ Own B' 3 1 w (.slice ra n rc) (lsF 1 n (fun q _ => T i q))
theorem OutS.mono {B : Nat} {w w' : World} {v : Value} {k n : Nat} {T : Nat → Nat → Int} {N : Nat} (h : OutS B w v k n T) (hb : Below N w w') (hN : w.heap.size ≤ N) : OutS B w' v k n T := by
  obtain ⟨xs, h1, h2⟩ := h
  refine ⟨xs, ownsRow_keep h1 fun g hg => hb.block g (by have := (ownsRow_lt h1 hg).2.1; omega), fun i hi => ?_⟩
  obtain ⟨ra, rc, B', h3, h4, h5⟩ := h2 i hi
  exact ⟨ra, rc, B', h3, h4, h5.mono (Nat.le_refl _) hb hN⟩
theorem OutS.at {B C : Nat} {w : World} {a : Option Addr} {cap n : Nat} {T : Nat → Nat → Int} (h : OutS B w (.slice a n cap) n n T) (hC : C ≤ B) : SsAt C w a n (fun _ => n) T := by
  intro h0
  obtain ⟨xs, h1, h2⟩ := h
  obtain ⟨g, cp, hv, hg1, hl, hc⟩ := ownsRow_cell h1 h0
  simp only [Value.slice.injEq] at hv
  obtain ⟨rfl, _, _⟩ := hv
  refine ⟨g, 0, rfl, by omega, hl, fun i hi => ?_⟩
  obtain ⟨ra, rc, B', h3, h4, h5⟩ := h2 i hi
  refine ⟨ra, rc, by rw [Nat.zero_add]; exact hc i _ h3, ?_⟩
  obtain ⟨a9, cp9, k1, k2⟩ := h5.ls.val
  rw [lsF_len] at k1 k2
  simp only [Value.slice.injEq] at k1
  obtain ⟨rfl, _, _⟩ := k1
  intro h0'
  obtain ⟨b', off, k3, k4, k5, k6⟩ := k2 h0'
  exact ⟨b', off, k3, by omega, k5, fun i hi j hj => by rw [k6 i hi j hj, lsF_fn hi hj]⟩

set_option maxRecDepth 100000 in
set_option maxHeartbeats 16000000 in
theorem table18 (b n : Nat) (R : Nat → Rt) (w : World) (hn : n ≤ 1048576) (hs : ∀ i, i < n → (R i).small ∧ (R i).nl + (R i).nf ≤ 1048576) (h : RsAt 0 w (some ⟨b, 0, none⟩) n R) :
    Calls Try.prog 18 #[.slice (some ⟨b, 0, none⟩) n n] w fun e w' => ∃ a' cap', e = .returned (.slice a' (tn n) cap') ∧ SsAt w.heap.size w' a' (tn n) (fun _ => tn n) (fun i k => exF (R i) (R k)) ∧ Below w.heap.size w w' := by
  have HS : Hid (∀ i, i < n → (R i).small ∧ (R i).nl + (R i).nf ≤ 1048576) := hs
  have H : Hid (RsAt 0 w (some ⟨b, 0, none⟩) n R) := h
  obtain ⟨i1, e1, e2, e3, e4⟩ := info_parts infoInts
  obtain ⟨j1, f1, f2, f3, f4⟩ := info_parts infoInt
  clear hs h
  by_cases h3 : n ≤ 300
  · have HN : Hid (tn n = n) := by show _ = _; simp [tn, h3]
    go_enter Try.func18, Try.ntmps18
    go_wp2_with fail
    go_loopw [3, 14] (fun s i wr => ∃ (k : Nat) (a : Option Addr) (cp : Nat), k ≤ n ∧ i = .int .i64 k ∧ s = .slice a k cp ∧ Hid (OutS w.heap.size wr (.slice a k cp) k n (fun i k => exF (R i) (R k))) ∧ Below w.heap.size w wr) (fun _ i _ => n - (intOf i).toNat)
    case atStart => exact ⟨0, none, 0, Nat.zero_le _, rfl, rfl, ⟨[], World.ownsRow_nil w _ 24 1, fun i hi => absurd hi (Nat.not_lt_zero _)⟩, Below.refl _ _⟩
    case round =>
      obtain ⟨k, a, cp, hk, rfl, rfl, HOt, hbel⟩ := hrel
      obtain ⟨wq, hwq⟩ : ∃ wq, wq = wr := ⟨_, rfl⟩
      subst hwq
      have hzq := hbel.size
      by_cases hlt : k < n
      · obtain ⟨b0, off, he, _, hb, hc⟩ := (H.out.mono (Nat.le_refl _) hbel (Nat.le_refl _)) (by omega)
        simp only [Option.some.injEq, Addr.mk.injEq, and_true] at he
        obtain ⟨rfl, rfl⟩ := he
        obtain ⟨sa, sc, la, lc, xa, xc, qa, qc, oa, oc, fa, fc, x0, x1, x2, x3, x4, x5, x6, x7, hin⟩ := hc k hlt
        simp only [Nat.zero_add] at x0 x1 x2 x3 x4 x5 x6 x7
        have HIN : Hid (RtIn 0 wq (R k) sa la xa qa oa fa) := hin
        have hB1 : Below w.heap.size w (wq.alloc (.cells #[.int .i64 (R k).fr, .int .i64 (R k).to, .slice sa (R k).ns sc, .slice la (R k).nl lc, .slice xa (R k).nx xc, .slice qa (R k).np qc, .slice oa (R k).no oc, .slice fa (R k).nf fc] 36)) := hbel.alloc hbel.size _
        have hX1 : Box (wq.alloc (.cells #[.int .i64 (R k).fr, .int .i64 (R k).to, .slice sa (R k).ns sc, .slice la (R k).nl lc, .slice xa (R k).nx xc, .slice qa (R k).np qc, .slice oa (R k).no oc, .slice fa (R k).nf fc] 36)) wq.heap.size 36 #[.int .i64 (R k).fr, .int .i64 (R k).to, .slice sa (R k).ns sc, .slice la (R k).nl lc, .slice xa (R k).nx xc, .slice qa (R k).np qc, .slice oa (R k).no oc, .slice fa (R k).nf fc] := Box.new wq 36 _
        have hlt' : (k : Int) < (n : Int) := by omega
        clear hc hin
        go_wp2_with fail
        clear x0 x1 x2 x3 x4 x5 x6 x7
        go_loopw [6, 20] (fun s i wr => ∃ (q : Nat) (a6 : Option Addr) (c6 : Nat), q ≤ n ∧ i = .int .i64 q ∧ s = .slice a6 q c6 ∧ Hid (Own (wq.heap.size + 1) 3 1 wr (.slice a6 q c6) (lsF 1 q (fun p _ => exF (R k) (R p)))) ∧ Below (wq.heap.size + 1) (wq.alloc (.cells #[.int .i64 (R k).fr, .int .i64 (R k).to, .slice sa (R k).ns sc, .slice la (R k).nl lc, .slice xa (R k).nx xc, .slice qa (R k).np qc, .slice oa (R k).no oc, .slice fa (R k).nf fc] 36)) wr) (fun _ i _ => n - (intOf i).toNat)
        case atStart => exact ⟨0, none, 0, Nat.zero_le _, rfl, rfl, Own.nil _ _ _ _, Below.refl _ _⟩
        case round =>
          obtain ⟨q, a6, c6, hq, rfl, rfl, HOw, hbi⟩ := hrel
          have hzi : wq.heap.size + 1 ≤ wr.heap.size := by have := hbi.size; simp at this; omega
          have hBi : Below w.heap.size w wr := hB1.trans (hbi.mono (by omega))
          by_cases hlq : q < n
          · obtain ⟨b0', off', he', _, hb', hc'⟩ := (H.out.mono (Nat.le_refl _) hBi (Nat.le_refl _)) (by omega)
            simp only [Option.some.injEq, Addr.mk.injEq, and_true] at he'
            obtain ⟨rfl, rfl⟩ := he'
            obtain ⟨sa', sc', la', lc', xa', xc', qa', qc', oa', oc', fa', fc', y0, y1, y2, y3, y4, y5, y6, y7, hin'⟩ := hc' q hlq
            simp only [Nat.zero_add] at y0 y1 y2 y3 y4 y5 y6 y7
            obtain ⟨u0, u1, u2, u3, u4, u5, u6, u7⟩ := (hX1.mono hbi (by simp)).eight
            have c9 := bel1 wr (.cells #[.int .i64 (R q).fr, .int .i64 (R q).to, .slice sa' (R q).ns sc', .slice la' (R q).nl lc', .slice xa' (R q).nx xc', .slice qa' (R q).np qc', .slice oa' (R q).no oc', .slice fa' (R q).nf fc'] 36)
            have HI2 : Hid (RtIn 0 (wr.alloc (.cells #[.int .i64 (R q).fr, .int .i64 (R q).to, .slice sa' (R q).ns sc', .slice la' (R q).nl lc', .slice xa' (R q).nx xc', .slice qa' (R q).np qc', .slice oa' (R q).no oc', .slice fa' (R q).nf fc'] 36)) (R q) sa' la' xa' qa' oa' fa') := hin'.mono (Nat.le_refl _) c9 (Nat.le_refl _)
            have HI1 : Hid (RtIn 0 (wr.alloc (.cells #[.int .i64 (R q).fr, .int .i64 (R q).to, .slice sa' (R q).ns sc', .slice la' (R q).nl lc', .slice xa' (R q).nx xc', .slice qa' (R q).np qc', .slice oa' (R q).no oc', .slice fa' (R q).nf fc'] 36)) (R k) sa la xa qa oa fa) := ((HIN.out.mono (Nat.le_refl _) (bel1 wq _) (Nat.le_refl _)).mono (Nat.le_refl _) hbi (by simp)).mono (Nat.le_refl _) c9 (Nat.le_refl _)
            have hzl : wq.heap.size < wr.heap.size := by omega
            have hlq' : (q : Int) < (n : Int) := by omega
            have HE : Hid (lsF 1 (q + 1) (fun p _ => exF (R k) (R p)) = lsF 1 q (fun p _ => exF (R k) (R p)) ++ [[exF (R k) (R q)]]) := lsF_succ 1 q _
            have hl0 : Hid ((lsF 1 q (fun p _ => exF (R k) (R p))).length = q) := lsF_len 1 q _
            clear hc' hin'
            go_wp2_with fail
            clear y0 y1 y2 y3 y4 y5 y6 y7 u0 u1 u2 u3 u4 u5 u6 u7
            refine (excludeS (R k) (R q) sa la xa qa oa fa sc lc xc qc oc fc sa' la' xa' qa' oa' fa' sc' lc' xc' qc' oc' fc' _ (HS.out k hlt).1 (HS.out q hlq).1 (HS.out k hlt).2 (HS.out q hlq).2 HI1.out HI2.out).mono ?_
            rintro e w1 ⟨rfl, hb1⟩
            have c91 := c9.trans (hb1.mono c9.size)
            have D1 : Below (wq.heap.size + 1) (wq.alloc (.cells #[.int .i64 (R k).fr, .int .i64 (R k).to, .slice sa (R k).ns sc, .slice la (R k).nl lc, .slice xa (R k).nx xc, .slice qa (R k).np qc, .slice oa (R k).no oc, .slice fa (R k).nf fc] 36)) w1 := hbi.trans (c91.mono hzi)
            have HO1 : Hid (Own (wq.heap.size + 1) 3 1 w1 (.slice a6 q c6) (lsF 1 q (fun p _ => exF (R k) (R p)))) := HOw.out.mono (Nat.le_refl _) c91 (Nat.le_refl _)
            have z1 := c91.size
            clear c9 hb1 c91 HI1 HI2 HOw
            generalize hex : exF (R k) (R q) = ex at *
            have HEX : Hid (exF (R k) (R q) = ex) := hex
            clear hex
            go_wp2_with (at_builtin; go_must (refine wpList_appH _ rfl (.tmp 24) (.tmp 28) 24 rfl (wq.heap.size + 1) 3 j1 _ 1 8 Try.underlying24 f1 f2 f3 f4 rfl (by decide) _ (lsF 1 q (fun p _ => exF (R k) (R p))) rfl (HO1.out.alloc _) ⟨w1.heap.size, 0, none⟩ 1 1 [[ex]] rfl rfl (by decide) (Wide.one rfl) (news_at [ex] rfl) (by rw [hl0.out]; simp [maxLen]; omega) (by rw [hl0.out]; omega) (by simp; omega) ?_))
            refine Halt.mk fun v4 w4 ho4 _ hap => ?_
            obtain ⟨a4, c4, rfl⟩ := ho4.val
            have D4 := (D1.alloc (by omega) (.cells #[.int .i64 ex] 3)).grown hap.fr (by simp; omega) (fun g e => (HO1.out.lt e).1)
            have hl4 : (lsF 1 q (fun p _ => exF (R k) (R p)) ++ [[ex]]).length = q + 1 := by rw [List.length_append, hl0.out]; rfl
            rw [hl4] at ho4 ⊢
            have HO4 : Hid (Own (wq.heap.size + 1) 3 1 w4 (.slice a4 (q + 1) c4) (lsF 1 (q + 1) (fun p _ => exF (R k) (R p)))) := by
              show Own _ _ _ _ _ _
              rw [HE.out]
              exact ho4
            clear ho4 hap HE HO1 hl4 D1
            go_wp2_with fail
            go_roundw
            case rel => exact ⟨q + 1, a4, c4, by omega, by go_num, rfl, HO4, D4⟩
            case measure => simp [intOf]; omega
          · have hqn : q = n := by omega
            subst hqn
            have HO0 : Hid (OutS w.heap.size wr (.slice a k cp) k q (fun i k => exF (R i) (R k))) := (HOt.out.mono (bel1 wq _) (Nat.le_refl _)).mono hbi (by simp)
            obtain ⟨xs, hx1, hx2⟩ := HO0.out
            have HX1 : Hid (wr.ownsRow w.heap.size 24 1 (.slice a k cp) k xs) := hx1
            have HX2 : Hid (∀ i, i < k → ∃ ra rc B', xs[i]? = some (.slice ra q rc) ∧ w.heap.size ≤ B' ∧ Own B' 3 1 wr (.slice ra q rc) (lsF 1 q (fun p _ => exF (R i) (R p)))) := hx2
            have HX3 : Hid ((wr.alloc (.cells #[.slice a6 q c6] 24)).ownsRow w.heap.size 24 1 (.slice a k cp) k xs) := ownsRow_keep hx1 fun g hg => Below.heap_alloc _ _ _ (ownsRow_lt hx1 hg).2.1
            have HXl : Hid (xs.length = k) := by
              have := hx1.1
              show _ = _
              omega
            clear hx1 hx2 HO0 HOt
            go_wp2_with (at_builtin; go_must (refine wpList_appCH _ rfl (.tmp 31) (.tmp 33) 47 rfl w.heap.size 24 i1 _ 1 24 Try.underlying47 e1 e2 e3 e4 rfl (by decide) _ k xs rfl HX3.out ⟨wr.heap.size, 0, none⟩ 1 1 [.slice a6 q c6] rfl rfl (news_atV [.slice a6 q c6] rfl) (by simp [Value.oneCell']) (by simp [maxLen]; omega) (by omega) (by simp; omega) ?_))
            refine Halt.mk fun v4 w4 ho4 hg4 => ?_
            obtain ⟨a4, c4, rfl⟩ := ownsRow_val ho4
            have hT : ∀ (B : Nat) (v : Value) (l : List Rw), Own B 3 1 wr v l → Own B 3 1 w4 v l := fun B v l hh => (hh.alloc _).grownOther HX3.out (by decide) hg4
            have HO4 : Hid (OutS w.heap.size w4 (.slice a4 (k + 1) c4) (k + 1) q (fun i k => exF (R i) (R k))) := by
              refine ⟨xs ++ [.slice a6 q c6], ho4, fun i hi => ?_⟩
              by_cases e : i = k
              · subst e
                exact ⟨a6, c6, wq.heap.size + 1, by rw [List.getElem?_append_right (by rw [HXl.out]; exact Nat.le_refl _), HXl.out]; simp, by omega, hT _ _ _ HOw.out⟩
              · obtain ⟨ra, rc, B', k1, k2, k3⟩ := HX2.out i (by omega)
                exact ⟨ra, rc, B', by rw [List.getElem?_append_left (by rw [HXl.out]; omega)]; exact k1, k2, hT _ _ _ k3⟩
            have D4 : Below w.heap.size w w4 := (hBi.alloc hBi.size _).grown hg4 (by have := hBi.size; simp; omega) (fun g e => (ownsRow_lt HX3.out e).1)
            clear ho4 hg4 hT HX1 HX2 HX3 HOw
            go_wp2_with fail
            go_roundw
            case rel => exact ⟨k + 1, a4, c4, by omega, by go_num, rfl, HO4, D4⟩
            case measure => simp [intOf]; omega
      · obtain rfl : k = n := by omega
        go_wp2_with fail
        go_ret
        refine ⟨a, cp, by rw [HN.out]; rfl, ?_, hbel⟩
        rw [HN.out]
        exact HOt.out.at (Nat.le_refl _)
  · have HN : Hid (tn n = 0) := by show _ = _; simp [tn, h3]
    have h3' : (300 : Int) < (n : Int) := by omega
    go_enter Try.func18, Try.ntmps18
    go_wp2_with fail
    go_ret
    exact ⟨none, 0, by rw [HN.out]; rfl, fun h0 => absurd h0 (by rw [HN.out]; omega), Below.refl _ _⟩

end Go.Proofs.Ytpghgdnhfhdgmaa
