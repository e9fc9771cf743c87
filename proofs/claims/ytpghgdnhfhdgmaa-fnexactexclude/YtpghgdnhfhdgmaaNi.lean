import Derived.Test.YtpghgdnhfhdgmaaNd
namespace Go.Proofs.Ytpghgdnhfhdgmaa
open Go.RowKit

theorem lsAt_le {c C C' : Nat} {w : World} {v : Value} {l : List Rw} (h : LsAt c C w v l) (hC : C' ≤ C) : LsAt c C' w v l := h.keep hC (Nat.le_refl _) fun _ _ => rfl

theorem Box.eight {w : World} {b : Nat} {T : TypeId} {a0 a1 a2 a3 a4 a5 a6 a7 : Value} (h : Box w b T #[a0, a1, a2, a3, a4, a5, a6, a7]) :
    w.cell? ⟨b, 0, none⟩ = some a0 ∧ w.cell? ⟨b, 1, none⟩ = some a1 ∧ w.cell? ⟨b, 2, none⟩ = some a2 ∧ w.cell? ⟨b, 3, none⟩ = some a3 ∧ w.cell? ⟨b, 4, none⟩ = some a4 ∧ w.cell? ⟨b, 5, none⟩ = some a5 ∧ w.cell? ⟨b, 6, none⟩ = some a6 ∧ w.cell? ⟨b, 7, none⟩ = some a7 :=
  ⟨h.cell 0, h.cell 1, h.cell 2, h.cell 3, h.cell 4, h.cell 5, h.cell 6, h.cell 7⟩
theorem Own.nsL {B : Nat} {e : TypeId} {c : Nat} {w : World} {a : Option Addr} {cap : Nat} {l : List Rw} (h : Own B e c w (.slice a l.length cap) l) : NsAt c 0 w a l.length (fnL l) := by
  obtain ⟨a9, c9, h9, h8⟩ := h.ls.val
  simp only [Value.slice.injEq] at h9
  obtain ⟨rfl, _, _⟩ := h9
  exact h8.le (Nat.zero_le _)

set_option maxRecDepth 100000 in
set_option maxHeartbeats 4000000 in
theorem needsI (fr to : Int) (sa la xa qa oa fa : Option Addr) (ns sc nl lc nx xc np qc no oc nf fc : Nat) (L : List Rw) (F : Nat → Nat → Int) (w : World) (hl : nl = L.length) (hn : nl ≤ 1048576) (hf : nf ≤ 1048576)
    (hL : LsAt 2 0 w (.slice la nl lc) L) (hF : NsAt 4 0 w fa nf F) :
    Calls Try.prog 9 #[.agg #[.int .i64 fr, .int .i64 to, .slice sa ns sc, .slice la nl lc, .slice xa nx xc, .slice qa np qc, .slice oa no oc, .slice fa nf fc]] w fun e w' => ∃ v, e = .returned v ∧ Own w.heap.size 62 2 w' v (nd L F nf) ∧ Below w.heap.size w w' := by
  obtain ⟨i1, e1, e2, e3, e4⟩ := info_parts infoLie
  have HL : Hid (LsAt 2 0 w (.slice la nl lc) L) := hL
  have Hl : Hid (nl = L.length) := hl
  have hL9 : L.length ≤ 1048576 := by omega
  clear hL hl
  go_enter Try.func9, Try.ntmps9
  have b0 := bel1 w (.cells #[.int .i64 fr, .int .i64 to, .slice sa ns sc, .slice la nl lc, .slice xa nx xc, .slice qa np qc, .slice oa no oc, .slice fa nf fc] 36)
  go_wp2_with (at_builtin; go_must (refine wpList_appsH _ rfl (.const (.slice none 0 0)) (.tmp 8) 30 rfl w.heap.size 62 i1 _ 2 16 Try.underlying30 e1 e2 e3 e4 rfl (by decide) _ [] rfl (Own.nil _ _ _ _) _ L rfl (HL.out.mono (Nat.le_refl _) b0 (Nat.le_refl _)) (by simp [maxLen]; omega) (by simp; omega) b0.size ?_))
  refine Halt.mk fun v1 w1 ho1 hg1 => ?_
  have B1 : Below w.heap.size w w1 := b0.grown hg1 b0.size (fun k e => by cases e)
  obtain ⟨a1, c1, rfl⟩ := ho1.val
  have x7 : w1.cell? ⟨w.heap.size, 7, none⟩ = some (.slice fa nf fc) := by
    have hb : Box (w.alloc (.cells #[.int .i64 fr, .int .i64 to, .slice sa ns sc, .slice la nl lc, .slice xa nx xc, .slice qa np qc, .slice oa no oc, .slice fa nf fc] 36)) w.heap.size 36 _ := Box.new w 36 _
    exact (hb.grown hg1 (fun e => by cases e)).cell 7
  have HO : Hid (Own w.heap.size 62 2 w1 (.slice a1 L.length c1) L) := ho1
  clear ho1 hg1 b0
  go_wp2_with fail
  go_loopw [3, 13] (fun s i wr => ∃ (k : Nat) (a : Option Addr) (c : Nat), k ≤ nf ∧ i = .int .i64 k ∧ s = .slice a (nd L F k).length c ∧ Hid (Own w.heap.size 62 2 wr (.slice a (nd L F k).length c) (nd L F k)) ∧ Below w.heap.size w wr) (fun _ i _ => nf - (intOf i).toNat)
  case atStart => exact ⟨0, a1, c1, Nat.zero_le _, rfl, rfl, HO, B1⟩
  case round =>
    obtain ⟨k, a, c, hk, rfl, rfl, HK, hbel⟩ := hrel
    clear HO x7
    by_cases hlt : k < nf
    · obtain ⟨b, off, rfl, _, hb, hc⟩ := (hF.mono (Nat.le_refl _) hbel (Nat.le_refl _)) (by omega)
      have c0 : wr.cell? ⟨b, off + k * 4, none⟩ = some (.int .i64 (F k 0)) := hc k hlt 0 (by omega)
      have c1 : wr.cell? ⟨b, off + k * 4 + 1, none⟩ = some (.int .i64 (F k 1)) := hc k hlt 1 (by omega)
      have c2 : wr.cell? ⟨b, off + k * 4 + 2, none⟩ = some (.int .i64 (F k 2)) := hc k hlt 2 (by omega)
      have c3 : wr.cell? ⟨b, off + k * 4 + 3, none⟩ = some (.int .i64 (F k 3)) := hc k hlt 3 (by omega)
      have hlen := nd_len L F k
      have HS : Hid (nd L F (k + 1) = ndStep (nd L F k) (F k 1) (F k 2) (F k 3)) := nd_succ L F k
      have hb2 : Below w.heap.size w ((wr.alloc (.cells #[.int .i64 (F k 0), .int .i64 (F k 1), .int .i64 (F k 2), .int .i64 (F k 3)] 64)).alloc (.cells #[.int .i64 (F k 2), .int .i64 (F k 3)] 62)) := (hbel.alloc hbel.size _).alloc (by have := hbel.size; simp; omega) _
      clear hc
      have HK2 : Hid (Own w.heap.size 62 2 ((wr.alloc (.cells #[.int .i64 (F k 0), .int .i64 (F k 1), .int .i64 (F k 2), .int .i64 (F k 3)] 64)).alloc (.cells #[.int .i64 (F k 2), .int .i64 (F k 3)] 62)) (.slice a (nd L F k).length c) (nd L F k)) := (HK.out.alloc _).alloc _
      clear HK
      by_cases h3 : F k 1 = 3
      · have h3' : (F k 1 == 3) = true := by simp [h3]
        have H3 : Hid (F k 1 = 3) := h3
        clear h3
        go_wp2_with fail
        refine (contains36 (.slice a (nd L F k).length c) (nd L F k) (F k 2) (F k 3) _ (by omega) (lsAt_le HK2.out.ls (Nat.zero_le _))).mono ?_
        rintro e w2 ⟨rfl, hb3⟩
        have HK3 : Hid (Own w.heap.size 62 2 w2 (.slice a (nd L F k).length c) (nd L F k)) := HK2.out.mono (Nat.le_refl _) hb3 (Nat.le_refl _)
        have B3 : Below w.heap.size w w2 := hb2.trans (hb3.mono hb2.size)
        have y0 : w2.cell? ⟨wr.heap.size + 1, 0, none⟩ = some (.int .i64 (F k 2)) := (hb3.cell (p := ⟨wr.heap.size + 1, 0, none⟩) (by simp)).trans (by simp)
        have y1 : w2.cell? ⟨wr.heap.size + 1, 1, none⟩ = some (.int .i64 (F k 3)) := (hb3.cell (p := ⟨wr.heap.size + 1, 1, none⟩) (by simp)).trans (by simp)
        clear HK2 hb2 hb3 c0 c1 c2 c3
        by_cases hm : [F k 2, F k 3] ∈ nd L F k
        · have HE : Hid (nd L F (k + 1) = nd L F k) := by
            show _ = _
            rw [HS.out, ndStep_in hm]
          rw [decide_eq_true hm]
          clear HS hm
          go_wp2_with fail
          go_roundw
          case rel => exact ⟨k + 1, a, c, by omega, by go_num, by rw [HE.out], by rw [HE.out]; exact HK3, B3⟩
          case measure => simp [intOf]; omega
        · have HE : Hid (nd L F (k + 1) = nd L F k ++ [[F k 2, F k 3]]) := by
            show _ = _
            rw [HS.out, ndStep_new H3.out hm]
          rw [decide_eq_false hm]
          have z3 := B3.size
          clear HS hm
          go_wp2_with (at_builtin; go_must (refine wpList_appH _ rfl (.tmp 31) (.tmp 33) 30 rfl w.heap.size 62 i1 _ 2 16 Try.underlying30 e1 e2 e3 e4 rfl (by decide) _ (nd L F k) rfl (HK3.out.alloc _) ⟨w2.heap.size, 0, none⟩ 1 1 [[F k 2, F k 3]] rfl rfl (by decide) (Wide.one rfl) (news_at [F k 2, F k 3] rfl) (by simp [maxLen]; omega) (by omega) (by simp; omega) ?_))
          refine Halt.mk fun v4 w4 ho4 _ hap => ?_
          obtain ⟨a4, c4, rfl⟩ := ho4.val
          have D4 : Below w.heap.size w w4 := (B3.alloc (by omega) _).grown hap.fr (by simp; omega) (fun k e => (HK3.out.lt e).1)
          have HK4 : Hid (Own w.heap.size 62 2 w4 (.slice a4 (nd L F (k + 1)).length c4) (nd L F (k + 1))) := by
            show Own _ _ _ _ _ _
            rw [HE.out]
            exact ho4
          have hl4 : (nd L F k ++ [[F k 2, F k 3]]).length = (nd L F (k + 1)).length := by rw [HE.out]
          rw [hl4]
          clear ho4 hap HE HK3 hl4
          go_wp2_with fail
          go_roundw
          case rel => exact ⟨k + 1, a4, c4, by omega, by go_num, rfl, HK4, D4⟩
          case measure => simp [intOf]; omega
      · have h3' : (F k 1 == 3) = false := by simp [h3]
        have HE : Hid (nd L F (k + 1) = nd L F k) := by
          show _ = _
          rw [HS.out, ndStep_no h3]
        clear h3 HS
        go_wp2_with fail
        go_roundw
        case rel => exact ⟨k + 1, a, c, by omega, by go_num, by rw [HE.out], by rw [HE.out]; exact HK2, hb2⟩
        case measure => simp [intOf]; omega
    · obtain rfl : k = nf := by omega
      go_wp2_with fail
      go_ret
      exact ⟨_, rfl, HK.out, hbel⟩

end Go.Proofs.Ytpghgdnhfhdgmaa
