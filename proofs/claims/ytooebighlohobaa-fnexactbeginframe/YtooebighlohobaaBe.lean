import Derived.Test.YtooebighlohobaaBd
import Derived.Deep.RegionHeld3
namespace Go.Proofs.Ytooebighlohobaa
open Go.RowKit

set_option maxRecDepth 100000 in
set_option maxHeartbeats 8000000 in
theorem begin13 (p : Pl) (wb yb bb : Nat) (lo rr : Nat → Nat) (w : World) (hs : p.small) (h : PlOwn 0 w p wb yb bb lo rr) :
    Calls Try.prog 13 #[.agg #[.int .i64 p.sec, .slice (some ⟨wb, 0, none⟩) p.nw p.nw, .slice (some ⟨yb, 0, none⟩) p.ny p.ny, .slice (some ⟨bb, 0, none⟩) p.nb p.nb, .int .i64 p.hold]] w fun e w' => FmR w (begF p) e w' := by
  have H : Hid (PlOwn 0 w p wb yb bb lo rr) := h
  have HS : Hid p.small := hs
  have HX : Hid (Box ((w.alloc (.cells #[.int .i64 p.sec, .slice (some ⟨wb, 0, none⟩) p.nw p.nw, .slice (some ⟨yb, 0, none⟩) p.ny p.ny, .slice (some ⟨bb, 0, none⟩) p.nb p.nb, .int .i64 p.hold] 33)).alloc (.cells #[.bool false, .slice none 0 0, .slice none 0 0, .slice none 0 0] 42)) w.heap.size 33 #[.int .i64 p.sec, .slice (some ⟨wb, 0, none⟩) p.nw p.nw, .slice (some ⟨yb, 0, none⟩) p.ny p.ny, .slice (some ⟨bb, 0, none⟩) p.nb p.nb, .int .i64 p.hold] ∧ Box ((w.alloc (.cells #[.int .i64 p.sec, .slice (some ⟨wb, 0, none⟩) p.nw p.nw, .slice (some ⟨yb, 0, none⟩) p.ny p.ny, .slice (some ⟨bb, 0, none⟩) p.nb p.nb, .int .i64 p.hold] 33)).alloc (.cells #[.bool false, .slice none 0 0, .slice none 0 0, .slice none 0 0] 42)) (w.heap.size + 1) 42 #[.bool false, .slice none 0 0, .slice none 0 0, .slice none 0 0] ∧ Below w.heap.size w ((w.alloc (.cells #[.int .i64 p.sec, .slice (some ⟨wb, 0, none⟩) p.nw p.nw, .slice (some ⟨yb, 0, none⟩) p.ny p.ny, .slice (some ⟨bb, 0, none⟩) p.nb p.nb, .int .i64 p.hold] 33)).alloc (.cells #[.bool false, .slice none 0 0, .slice none 0 0, .slice none 0 0] 42))) := ⟨(Box.new w 33 _).alloc _, by have := Box.new (w.alloc (.cells #[.int .i64 p.sec, .slice (some ⟨wb, 0, none⟩) p.nw p.nw, .slice (some ⟨yb, 0, none⟩) p.ny p.ny, .slice (some ⟨bb, 0, none⟩) p.nb p.nb, .int .i64 p.hold] 33)) 42 #[.bool false, .slice none 0 0, .slice none 0 0, .slice none 0 0]; simpa using this, bel2 w _ _⟩
  clear h hs
  go_enter Try.func13, Try.ntmps13
  go_wp2_with fail
  generalize ((w.alloc (.cells #[.int .i64 p.sec, .slice (some ⟨wb, 0, none⟩) p.nw p.nw, .slice (some ⟨yb, 0, none⟩) p.ny p.ny, .slice (some ⟨bb, 0, none⟩) p.nb p.nb, .int .i64 p.hold] 33)).alloc (.cells #[.bool false, .slice none 0 0, .slice none 0 0, .slice none 0 0] 42)) = w0 at HX ⊢
  refine (planI9 p wb yb bb lo rr _ HS.out (H.out.mono (Nat.le_refl _) HX.out.2.2 (Nat.le_refl _))).mono ?_
  rintro e w1 ⟨he, hb1⟩
  have HX1 : Hid (Box w1 w.heap.size 33 #[.int .i64 p.sec, .slice (some ⟨wb, 0, none⟩) p.nw p.nw, .slice (some ⟨yb, 0, none⟩) p.ny p.ny, .slice (some ⟨bb, 0, none⟩) p.nb p.nb, .int .i64 p.hold] ∧ Box w1 (w.heap.size + 1) 42 #[.bool false, .slice none 0 0, .slice none 0 0, .slice none 0 0] ∧ Below w.heap.size w w1) := ⟨HX.out.1.mono hb1 (Nat.le_refl _), HX.out.2.1.mono hb1 (Nat.le_refl _), HX.out.2.2.trans (hb1.mono HX.out.2.2.size)⟩
  clear HX hb1
  have d0 : w1.cell? ⟨w.heap.size + 1, 0, none⟩ = some (.bool false) := HX1.out.2.1.cell 0
  have f0 := HX1.out.2.1.free 0
  have d1 : w1.cell? ⟨w.heap.size + 1, 1, none⟩ = some (.slice none 0 0) := HX1.out.2.1.cell 1
  have f1 := HX1.out.2.1.free 1
  have d2 : w1.cell? ⟨w.heap.size + 1, 2, none⟩ = some (.slice none 0 0) := HX1.out.2.1.cell 2
  have f2 := HX1.out.2.1.free 2
  have d3 : w1.cell? ⟨w.heap.size + 1, 3, none⟩ = some (.slice none 0 0) := HX1.out.2.1.cell 3
  have f3 := HX1.out.2.1.free 3
  by_cases h0 : (planF p).1 = 0
  · obtain ⟨hd, g1, g2, g3, g4⟩ := planF_zero h0
    rw [h0, hd] at he
    subst he
    have HF : Hid (begF p = _) := begF_yes h0
    obtain ⟨n, hn⟩ : ∃ n : Nat, p.sec = (n : Int) := ⟨p.sec.toNat, by omega⟩
    have HN : Hid (p.sec.toNat = n) := by rw [Hid, hn]; simp
    have n60 : n ≤ 60 := by omega
    have hmk := make_rows (P := Try.prog) 38 4 _ 1 1 Try.underlying38 infoBool n (by omega) (by omega)
    simp only [Nat.mul_one] at hmk
    have a0 : w1.cell? ⟨w.heap.size, 0, none⟩ = some (.int .i64 p.sec) := HX1.out.1.cell 0
    have a1 : w1.cell? ⟨w.heap.size, 1, none⟩ = some (.slice (some ⟨wb, 0, none⟩) p.nw p.nw) := HX1.out.1.cell 1
    have a2 : w1.cell? ⟨w.heap.size, 2, none⟩ = some (.slice (some ⟨yb, 0, none⟩) p.ny p.ny) := HX1.out.1.cell 2
    have a3 : w1.cell? ⟨w.heap.size, 3, none⟩ = some (.slice (some ⟨bb, 0, none⟩) p.nb p.nb) := HX1.out.1.cell 3
    have a4 : w1.cell? ⟨w.heap.size, 4, none⟩ = some (.int .i64 p.hold) := HX1.out.1.cell 4
    have z0 : w.heap.size + 1 < w1.heap.size := HX1.out.2.1.lt
    clear d0 d1 d2 d3 f0 f1 f2 f3 h0 hd
    have HX2 : Hid (Box w1 w.heap.size 33 #[.int .i64 (n : Int), .slice (some ⟨wb, 0, none⟩) p.nw p.nw, .slice (some ⟨yb, 0, none⟩) p.ny p.ny, .slice (some ⟨bb, 0, none⟩) p.nb p.nb, .int .i64 p.hold] ∧ Box w1 (w.heap.size + 1) 42 #[.bool false, .slice none 0 0, .slice none 0 0, .slice none 0 0] ∧ Below w.heap.size w w1) := by have := HX1.out; rw [hn] at this; exact this
    have a0' : w1.cell? ⟨w.heap.size, 0, none⟩ = some (.int .i64 (n : Int)) := HX2.out.1.cell 0
    have HK : Hid (∀ W, Below w1.heap.size w1 W → W.cell? ⟨w.heap.size, 0, none⟩ = some (.int .i64 (n : Int)) ∧ W.cell? ⟨w.heap.size, 1, none⟩ = some (.slice (some ⟨wb, 0, none⟩) p.nw p.nw) ∧ W.cell? ⟨w.heap.size, 2, none⟩ = some (.slice (some ⟨yb, 0, none⟩) p.ny p.ny) ∧ W.cell? ⟨w.heap.size, 3, none⟩ = some (.slice (some ⟨bb, 0, none⟩) p.nb p.nb) ∧ W.cell? ⟨w.heap.size, 4, none⟩ = some (.int .i64 p.hold)) := fun W hb => ⟨cell_keep hb (by omega) a0', cell_keep hb (by omega) a1, cell_keep hb (by omega) a2, cell_keep hb (by omega) a3, cell_keep hb (by omega) a4⟩
    have H37 : Hid (∀ (W : World) (oa : Option Addr) (oc : Nat) (pa : Option Addr) (pc : Nat) (ia : Option Addr) (ic : Nat), PlOwn 0 W p wb yb bb lo rr → CpAt W 1 oa n oc (boolF fun _ => false) → CpAt W 2 pa p.nw pc (intF fun _ _ => 1) → VsAt 1 0 W ia p.ny (fun _ _ => .iface 76 (.agg #[])) → Calls Try.prog 37 #[.agg #[.int .i64 (n : Int), .slice (some ⟨wb, 0, none⟩) p.nw p.nw, .slice (some ⟨yb, 0, none⟩) p.ny p.ny, .slice (some ⟨bb, 0, none⟩) p.nb p.nb, .int .i64 p.hold, .slice oa n oc, .slice pa p.nw pc, .slice ia p.ny ic]] W fun e w' => DkR p n p.nw W e w') := fun W oa oc pa pc ia ic h1 h2 h3 h4 => by
      have := frame37 p (some ⟨wb, 0, none⟩) (some ⟨yb, 0, none⟩) (some ⟨bb, 0, none⟩) p.nw p.ny p.nb oa n oc pa p.nw pc ia ic W HS.out g4 n60 g3 (h1.in (Nat.zero_le _)) h2 h3 h4
      rw [hn] at this
      exact this
    clear a0 HX1
    have HNN : Hid (p.sec = (n : Int)) := hn
    go_wp2_with fail
    clear hn
    rename_i Q1 K1 hK1
    have REST : ∀ (ob db : Nat) (w3 : World), Hid (Below w1.heap.size w1 w3 ∧ Box w3 ob 4 (mk0 (.bool false) n) ∧ Box w3 db 74 #[.int .i64 (n : Int), .slice (some ⟨wb, 0, none⟩) p.nw p.nw, .slice (some ⟨yb, 0, none⟩) p.ny p.ny, .slice (some ⟨bb, 0, none⟩) p.nb p.nb, .int .i64 p.hold, .slice (some ⟨ob, 0, none⟩) n n, .slice none 0 0, .slice none 0 0] ∧ w1.heap.size ≤ ob ∧ w1.heap.size ≤ db) → Exit.then K1 Q1 Exit.normal ⟨#[.agg #[.int .i64 (n : Int), .slice (some ⟨wb, 0, none⟩) p.nw p.nw, .slice (some ⟨yb, 0, none⟩) p.ny p.ny, .slice (some ⟨bb, 0, none⟩) p.nb p.nb, .int .i64 p.hold], .pointer (some ⟨w.heap.size, 0, none⟩), .pointer (some ⟨w.heap.size + 1, 0, none⟩), .pointer (some ⟨db, 0, none⟩), .agg #[.int .i64 (n : Int), .slice (some ⟨wb, 0, none⟩) p.nw p.nw, .slice (some ⟨yb, 0, none⟩) p.ny p.ny, .slice (some ⟨bb, 0, none⟩) p.nb p.nb, .int .i64 p.hold], .agg #[.int .i64 0, .int .i64 0], .agg #[.int .i64 0, .int .i64 0], .bool false, undef, .agg #[.int .i64 (n : Int), .slice (some ⟨wb, 0, none⟩) p.nw p.nw, .slice (some ⟨yb, 0, none⟩) p.ny p.ny, .slice (some ⟨bb, 0, none⟩) p.nb p.nb, .int .i64 p.hold], .pointer (some ⟨w.heap.size, 0, none⟩), .int .i64 (n : Int), .slice (some ⟨ob, 0, none⟩) n n, .agg #[.int .i64 (n : Int), .slice (some ⟨wb, 0, none⟩) p.nw p.nw, .slice (some ⟨yb, 0, none⟩) p.ny p.ny, .slice (some ⟨bb, 0, none⟩) p.nb p.nb, .int .i64 p.hold, .slice (some ⟨ob, 0, none⟩) n n, .slice none 0 0, .slice none 0 0], undef, undef, undef, undef, undef, undef, undef, undef, undef, undef, undef, undef, undef, undef, undef, undef, undef, undef, undef, undef, undef, undef, undef, undef, undef, undef, undef], []⟩ w3 := by
      intro ob db w3 HG
      have M0 : Hid (DkM p w wb yb bb ob db n (.slice none 0 0) 0 (.slice none 0 0) 0 w3) := by
        obtain ⟨k1, k2, k3, k4, k5⟩ := HG.out
        exact ⟨HX2.out.2.2.trans (k1.mono HX2.out.2.2.size), HX2.out.1.mono k1 (Nat.le_refl _), HX2.out.2.1.mono k1 (Nat.le_refl _), k3, VOwn.made k2 (by omega), VOwn.nil _ _ _ _ _, VOwn.nil _ _ _ _ _, by omega, by omega⟩
      have b1 : w3.cell? ⟨w.heap.size, 1, none⟩ = some (.slice (some ⟨wb, 0, none⟩) p.nw p.nw) := M0.out.2.1.cell 1
      clear HG a0' a1 a2 a3 a4 HK hmk
      obtain ⟨i0, hi0, hz0, hs0, hb0⟩ := info_parts infoPoint
      obtain ⟨i3, hi3, hz3, hs3, hb3⟩ := info_parts infoState
      go_wp2_with fail
      clear b1
      go_loopw [17] (fun i wr => ∃ (q : Nat) (va : Option Addr) (vc : Nat), q ≤ p.nw ∧ i = .int .i64 (q : Int) ∧ Hid (DkM p w wb yb bb ob db n (.slice va q vc) q (.slice none 0 0) 0 wr)) (fun i _ => p.nw - (intOf i).toNat)
      case atStart => exact ⟨0, none, 0, Nat.zero_le _, rfl, M0⟩
      case round =>
        obtain ⟨q, va, vc, hq, rfl, M⟩ := hrel
        clear M0
        by_cases hlt : q < p.nw
        · have c2 : wr.cell? ⟨db, 6, none⟩ = some (.slice va q vc) := M.out.2.2.2.1.cell 6
          have zf : db < wr.heap.size := M.out.2.2.2.1.lt
          have hql : (q : Int) < (p.nw : Int) := by omega
          have zh : w.heap.size + 1 < wr.heap.size := M.out.2.2.1.lt
          have M1 : Hid (DkM p w wb yb bb ob db n (.slice va q vc) q (.slice none 0 0) 0 (wr.alloc (.cells #[.int .i64 1, .int .i64 1] 69))) := M.out.mono (bel1 _ _)
          go_wp2_with (at_builtin; go_must (refine wpList_vapp _ rfl _ _ 39 rfl (w.heap.size + 1 + 1) 69 i0 _ 2 16 Try.underlying39 hi0 hz0 hs0 hb0 rfl (by decide) (.slice va q vc) q (intF fun _ _ => 1) rfl M1.out.2.2.2.2.2.1 (fun _ _ => rfl) wr.heap.size 1 #[.int .i64 1, .int .i64 1] rfl (Box.new wr 69 _) rfl (by simp only [maxLen]; omega) (by omega) (by simp; omega) (Halt.mk ?_)))
          intro v2 w2 o2 g2
          obtain ⟨hM2, hB2⟩ := M1.out.point o2 g2
          obtain ⟨va2, vc2, hv2⟩ := o2.val
          subst hv2
          have c3 : w2.cell? ⟨db, 6, none⟩ = some (.slice va q vc) := hB2.cell 6
          have c4 := hB2.free 6
          have M2 : Hid (DkM p w wb yb bb ob db n (.slice va2 (q + 1) vc2) (q + 1) (.slice none 0 0) 0 (w2.setCell ⟨db, 6, none⟩ (.slice va2 (q + 1) vc2))) := hM2
          clear hM2 hB2 o2 g2 M M1 c2
          go_wp2_with fail
          go_roundw
          case rel => exact ⟨q + 1, va2, vc2, by omega, by go_num, M2⟩
          case measure => simp [intOf]; omega
        · have hge : ¬ ((q : Int) < (p.nw : Int)) := by omega
          have hqn : q = p.nw := by omega
          have MP : Hid (DkM p w wb yb bb ob db n (.slice va p.nw vc) p.nw (.slice none 0 0) 0 wr) := by have := M.out; rw [hqn] at this; exact this
          have a2 : wr.cell? ⟨w.heap.size, 2, none⟩ = some (.slice (some ⟨yb, 0, none⟩) p.ny p.ny) := M.out.2.1.cell 2
          clear M
          go_wp2_with fail
          clear a2 hge hqn hlt hq
          go_loopw [29] (fun i wr => ∃ (q : Nat) (ha : Option Addr) (hc : Nat), q ≤ p.ny ∧ i = .int .i64 (q : Int) ∧ Hid (DkM p w wb yb bb ob db n (.slice va p.nw vc) p.nw (.slice ha q hc) q wr)) (fun i _ => p.ny - (intOf i).toNat)
          case atStart => exact ⟨0, none, 0, Nat.zero_le _, rfl, MP⟩
          case round =>
            obtain ⟨q, ha, hc, hq, rfl, M⟩ := hrel
            clear MP
            by_cases hlt : q < p.ny
            · have c2 : wr.cell? ⟨db, 7, none⟩ = some (.slice ha q hc) := M.out.2.2.2.1.cell 7
              have zf : db < wr.heap.size := M.out.2.2.2.1.lt
              have hql : (q : Int) < (p.ny : Int) := by omega
              have zh : w.heap.size + 1 < wr.heap.size := M.out.2.2.1.lt
              have M1 : Hid (DkM p w wb yb bb ob db n (.slice va p.nw vc) p.nw (.slice ha q hc) q (wr.alloc (.cells #[.iface 76 (.agg #[])] 115))) := M.out.mono (bel1 _ _)
              go_wp2_with (at_builtin; go_must (refine wpList_vapp _ rfl _ _ 72 rfl (w.heap.size + 1 + 1) 115 i3 _ 1 16 Try.underlying72 hi3 hz3 hs3 hb3 rfl (by decide) (.slice ha q hc) q (fun _ _ => .iface 76 (.agg #[])) rfl M1.out.2.2.2.2.2.2.1 (fun _ _ => rfl) wr.heap.size 1 #[.iface 76 (.agg #[])] rfl (Box.new wr 115 _) rfl (by simp only [maxLen]; omega) (by omega) (by simp; omega) (Halt.mk ?_)))
              intro v2 w2 o2 g2
              obtain ⟨hM2, hB2⟩ := M1.out.way o2 g2
              obtain ⟨va2, vc2, hv2⟩ := o2.val
              subst hv2
              have c3 : w2.cell? ⟨db, 7, none⟩ = some (.slice ha q hc) := hB2.cell 7
              have c4 := hB2.free 7
              have M2 : Hid (DkM p w wb yb bb ob db n (.slice va p.nw vc) p.nw (.slice va2 (q + 1) vc2) (q + 1) (w2.setCell ⟨db, 7, none⟩ (.slice va2 (q + 1) vc2))) := hM2
              clear hM2 hB2 o2 g2 M M1 c2
              go_wp2_with fail
              go_roundw
              case rel => exact ⟨q + 1, va2, vc2, by omega, by go_num, M2⟩
              case measure => simp [intOf]; omega
            · have hge : ¬ ((q : Int) < (p.ny : Int)) := by omega
              have hqn : q = p.ny := by omega
              have MP : Hid (DkM p w wb yb bb ob db n (.slice va p.nw vc) p.nw (.slice ha p.ny hc) p.ny wr) := by have := M.out; rw [hqn] at this; exact this
              have x0 : wr.cell? ⟨db, 0, none⟩ = some (.int .i64 (n : Int)) := MP.out.2.2.2.1.cell 0
              have x1 : wr.cell? ⟨db, 1, none⟩ = some (.slice (some ⟨wb, 0, none⟩) p.nw p.nw) := MP.out.2.2.2.1.cell 1
              have x2 : wr.cell? ⟨db, 2, none⟩ = some (.slice (some ⟨yb, 0, none⟩) p.ny p.ny) := MP.out.2.2.2.1.cell 2
              have x3 : wr.cell? ⟨db, 3, none⟩ = some (.slice (some ⟨bb, 0, none⟩) p.nb p.nb) := MP.out.2.2.2.1.cell 3
              have x4 : wr.cell? ⟨db, 4, none⟩ = some (.int .i64 p.hold) := MP.out.2.2.2.1.cell 4
              have x5 : wr.cell? ⟨db, 5, none⟩ = some (.slice (some ⟨ob, 0, none⟩) n n) := MP.out.2.2.2.1.cell 5
              have x6 : wr.cell? ⟨db, 6, none⟩ = some (.slice va p.nw vc) := MP.out.2.2.2.1.cell 6
              have x7 : wr.cell? ⟨db, 7, none⟩ = some (.slice ha p.ny hc) := MP.out.2.2.2.1.cell 7
              have zf : db < wr.heap.size := M.out.2.2.2.1.lt
              clear M hqn
              go_wp2_with fail
              refine (H37.out wr (some ⟨ob, 0, none⟩) n va vc ha hc (H.out.mono (Nat.le_refl _) MP.out.1 (Nat.le_refl _)) (CpAt.of_own MP.out.2.2.2.2.1) (CpAt.of_own MP.out.2.2.2.2.2.1) (MP.out.2.2.2.2.2.2.1.vs.le (Nat.zero_le _))).mono ?_
              rintro e w5 ⟨oa, pa, ha5, oc, pc, hc5, r, rfl, hfm, hb5⟩
              obtain ⟨k1, k2, k3, k4⟩ := MP.out
              have k3' := k3.mono hb5 (Nat.le_refl _)
              have d0 : w5.cell? ⟨w.heap.size + 1, 0, none⟩ = some (.bool false) := k3'.cell 0
              have f0 := k3'.free 0
              have d1 : w5.cell? ⟨w.heap.size + 1, 1, none⟩ = some (.slice none 0 0) := k3'.cell 1
              have f1 := k3'.free 1
              have d2 : w5.cell? ⟨w.heap.size + 1, 2, none⟩ = some (.slice none 0 0) := k3'.cell 2
              have f2 := k3'.free 2
              have d3 : w5.cell? ⟨w.heap.size + 1, 3, none⟩ = some (.slice none 0 0) := k3'.cell 3
              have f3 := k3'.free 3
              have HR : Hid (∀ W, Fr (fun b => b = w.heap.size + 1) w5 W → FmR w (begF p) (.returned (.agg #[.bool true, .slice oa n oc, .slice pa p.nw pc, .slice ha5 p.ny hc5])) W) := fun W hf => by
                have K : ∀ b T cur, Box w5 b T cur → T ≠ 42 → W.heap[b]? = w5.heap[b]? := fun b T cur hb hT => hf.block b hb.lt fun e => by subst e; exact hb.ne k3' hT rfl
                have hB := k1.trans (hb5.mono k1.size)
                obtain ⟨f1, f2, f3, f4⟩ := hfm
                have f3' := f3.by_ fun b T cur hb hT => K b T cur hb (by rcases hT with rfl | rfl <;> decide)
                have hz := k1.size
                rw [HF.out, HN.out]
                exact ⟨oa, pa, ha5, oc, pc, hc5, r, rfl, ⟨(f1.by_ fun b cur hb => K b 4 cur hb (by decide)).keep hz fun _ _ => rfl, (f2.by_ fun b cur hb => K b 69 cur hb (by decide)).keep hz fun _ _ => rfl, ⟨f3'.own.keep hz fun _ _ => rfl, fun i hi => ⟨(f3'.row i hi).1, by have := (f3'.row i hi).2; omega⟩, f3'.inj⟩, f4⟩, hB.trans (hf.below hB.size fun k hk => by omega)⟩
              have HF0 : Hid (Fr (fun b => b = w.heap.size + 1) w5 w5) := Fr.refl _ _
              clear hfm hb5 k1 k2 k3 k4 k3' MP
              go_wp2_with fail
              refine bodyPost_ret (v := .agg #[.bool true, .slice oa n oc, .slice pa p.nw pc, .slice ha5 p.ny hc5]) (by simp [results, Try.results13, go_sem, d0, d1, d2, d3]) rfl ?_
              exact HR.out _ ((((HF0.out.cells rfl 0 _).cells rfl 1 _).cells rfl 2 _).cells rfl 3 _)
    go_region_held3 (fun w' => w'.cell? ⟨w.heap.size, 0, none⟩ = some (.int .i64 (n : Int)) ∧ w'.cell? ⟨w.heap.size, 1, none⟩ = some (.slice (some ⟨wb, 0, none⟩) p.nw p.nw) ∧ w'.cell? ⟨w.heap.size, 2, none⟩ = some (.slice (some ⟨yb, 0, none⟩) p.ny p.ny) ∧ w'.cell? ⟨w.heap.size, 3, none⟩ = some (.slice (some ⟨bb, 0, none⟩) p.nb p.nb) ∧ w'.cell? ⟨w.heap.size, 4, none⟩ = some (.int .i64 p.hold)) (first | (exact HK.out _ (by repeat (first | exact Below.refl _ _ | refine Below.drew ?_ | refine Below.alloc ?_ (by first | omega | (simp; omega) | (simp; done)) _ | refine Below.setCell ?_ (by first | omega | (simp; omega) | (simp; done)) _))) | go_keep) (fail)
    all_goals
      obtain ⟨t1, t2, t3⟩ := two w1 _ _
      first
      | exact REST w1.heap.size (w1.heap.size + 1) _ ⟨t3, t1, t2, by omega, by omega⟩
      | exact REST (w1.heap.size + 1) w1.heap.size _ ⟨t3, t2, t1, by omega, by omega⟩
  · have HD : Hid ((planF p).1 ≠ 0) := h0
    have HF : Hid (begF p = _) := begF_no h0
    obtain ⟨c, hcc⟩ : ∃ c, (planF p).1 = c := ⟨_, rfl⟩
    obtain ⟨d, hdd⟩ : ∃ d, (planF p).2 = d := ⟨_, rfl⟩
    rw [hcc] at he h0
    rw [hdd] at he
    clear hcc hdd
    subst he
    have HR : Hid (∀ w', Fr (fun b => b = w.heap.size + 1) w1 w' → Below w.heap.size w w') := fun w' hf => HX1.out.2.2.trans (hf.below HX1.out.2.2.size fun k hk => by omega)
    have HF0 : Hid (Fr (fun b => b = w.heap.size + 1) w1 w1) := Fr.refl _ _
    go_wp2_with fail
    refine bodyPost_ret (v := .agg #[.bool false, .slice none 0 0, .slice none 0 0, .slice none 0 0]) (by simp [results, Try.results13, go_sem, d0, d1, d2, d3]) rfl ?_
    rw [HF.out]
    exact ⟨none, none, none, 0, 0, 0, fun _ => 0, rfl, ⟨VOwn.nil _ _ _ _ _, VOwn.nil _ _ _ _ _, HsOwn.nil _ _ _ _, fun g hg => by simp [Value.ownBlock] at hg⟩, HR.out _ ((((HF0.out.cells rfl 0 _).cells rfl 1 _).cells rfl 2 _).cells rfl 3 _)⟩

end Go.Proofs.Ytooebighlohobaa
