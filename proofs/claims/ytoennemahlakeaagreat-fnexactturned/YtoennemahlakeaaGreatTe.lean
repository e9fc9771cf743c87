import Derived.Test.YtoennemahlakeaaGreatTc
import Derived.Test.YtoennemahlakeaaGreatTx
namespace Go.Proofs.YtoennemahlakeaaGreat
open Go.RowKit Go.Lib

set_option maxHeartbeats 2000000 in
theorem room90 {v : Nv} (ok : v.Ok) (pa : Option Addr) (pc : Nat) (ja : Option Addr) (jc : Nat) (p : Nat) (a way : Int) (w : World) (hp : p < v.n) (ha : 0 ≤ a ∧ a ≤ (v.P p).ln) (hP : PsAt 0 w pa v.n v.P) :
    Calls Tryz.prog 70 #[.agg #[.slice pa v.n pc, .slice ja v.m jc], .agg #[.int .i64 (p : Int), .int .i64 a, .int .i64 way]] w fun e w' => e = .returned (.int .i64 (if way = 1 then (v.P p).ln - a else a)) ∧ Below w.heap.size w w' := by
  obtain ⟨b, off, rfl, _, hb, hc⟩ := hP (by omega)
  have HC1 : Hid (b < w.heap.size ∧ w.cell? ⟨b, off + p * 4 + 1, none⟩ = some (.int .i64 (v.P p).ln)) := ⟨hb, (hc p hp).2.1⟩
  have hpi : (p : Int) < (v.n : Int) := by omega
  have hp0 : (0 : Int) ≤ (p : Int) := by omega
  have hl := ok.ln p hp
  have hn := ok.n1
  clear hc hP ok hb
  have S0 : Hid (Below w.heap.size w ((w.alloc (.cells #[.slice (some ⟨b, off, none⟩) v.n pc, .slice ja v.m jc] 38)).alloc (.cells #[.int .i64 (p : Int), .int .i64 a, .int .i64 way] 40)) ∧ Box ((w.alloc (.cells #[.slice (some ⟨b, off, none⟩) v.n pc, .slice ja v.m jc] 38)).alloc (.cells #[.int .i64 (p : Int), .int .i64 a, .int .i64 way] 40)) w.heap.size 38 #[.slice (some ⟨b, off, none⟩) v.n pc, .slice ja v.m jc] ∧ Box ((w.alloc (.cells #[.slice (some ⟨b, off, none⟩) v.n pc, .slice ja v.m jc] 38)).alloc (.cells #[.int .i64 (p : Int), .int .i64 a, .int .i64 way] 40)) (w.heap.size + 1) 40 #[.int .i64 (p : Int), .int .i64 a, .int .i64 way]) := ⟨bel2 _ _ _, (Box.new _ _ _).alloc _, by have := Box.new (w.alloc (.cells #[.slice (some ⟨b, off, none⟩) v.n pc, .slice ja v.m jc] 38)) 40 #[.int .i64 (p : Int), .int .i64 a, .int .i64 way]; simpa using this⟩
  have hwr : IntKind.i64.wrap ((v.P p).ln - a) = (v.P p).ln - a := by rw [IntKind.wrap_i64]; omega
  by_cases hw : way = 1
  · have HR : Hid ((if way = 1 then (v.P p).ln - a else a) = (v.P p).ln - a) := if_pos hw
    rw [HR.out]
    subst hw
    go_enter Tryz.func70, Tryz.ntmps70
    go_upto_region 1 with fail
    generalize ((w.alloc (.cells #[.slice (some ⟨b, off, none⟩) v.n pc, .slice ja v.m jc] 38)).alloc (.cells #[.int .i64 (p : Int), .int .i64 a, .int .i64 1] 40)) = V0 at S0 ⊢
    have c1 : V0.cell? ⟨b, off + p * 4 + 1, none⟩ = some (.int .i64 (v.P p).ln) := cell_keep S0.out.1 HC1.out.1 HC1.out.2
    have n0 : V0.cell? ⟨w.heap.size, 0, none⟩ = some (.slice (some ⟨b, off, none⟩) v.n pc) := S0.out.2.1.cell 0
    have s0 : V0.cell? ⟨w.heap.size + 1, 0, none⟩ = some (.int .i64 (p : Int)) := S0.out.2.2.cell 0
    have s1 : V0.cell? ⟨w.heap.size + 1, 1, none⟩ = some (.int .i64 a) := S0.out.2.2.cell 1
    have s2 : V0.cell? ⟨w.heap.size + 1, 2, none⟩ = some (.int .i64 1) := S0.out.2.2.cell 2
    go_wp2_with fail
    go_quiet (fail)
    go_wp2_with fail
    go_ret
    exact ⟨by rw [← hwr]; rfl, below_drewN S0.out.1 _⟩
  · have HR : Hid ((if way = 1 then (v.P p).ln - a else a) = a) := if_neg hw
    have hw' : (way == 1) = false := by simpa using hw
    rw [HR.out]
    clear hw
    go_enter Tryz.func70, Tryz.ntmps70
    go_upto_region 1 with fail
    generalize ((w.alloc (.cells #[.slice (some ⟨b, off, none⟩) v.n pc, .slice ja v.m jc] 38)).alloc (.cells #[.int .i64 (p : Int), .int .i64 a, .int .i64 way] 40)) = V0 at S0 ⊢
    have s1 : V0.cell? ⟨w.heap.size + 1, 1, none⟩ = some (.int .i64 a) := S0.out.2.2.cell 1
    have s2 : V0.cell? ⟨w.heap.size + 1, 2, none⟩ = some (.int .i64 way) := S0.out.2.2.cell 2
    go_wp2_with fail
    go_ret
    exact ⟨rfl, S0.out.1⟩
set_option maxRecDepth 100000 in
set_option maxHeartbeats 4000000 in
theorem behind63 {v : Nv} (ok : v.Ok) (pa : Option Addr) (pc : Nat) (ja : Option Addr) (jc : Nat) (p : Nat) (a way : Int) (w : World) (hp : p < v.n) (ha : 0 ≤ a ∧ a ≤ (v.P p).ln) (hP : PsAt 0 w pa v.n v.P) :
    Calls Tryz.prog 41 #[.agg #[.slice pa v.n pc, .slice ja v.m jc], .agg #[.int .i64 (p : Int), .int .i64 a, .int .i64 way]] w fun e w' => e = .returned (.int .i64 (farI (v.P p).ln a way)) ∧ Below w.heap.size w w' := by
  have HP : Hid (PsAt 0 w pa v.n v.P ∧ v.Ok) := ⟨hP, ok⟩
  obtain ⟨b, off, rfl, _, hb, hc⟩ := hP (by omega)
  have HC1 : Hid (b < w.heap.size ∧ w.cell? ⟨b, off + p * 4 + 1, none⟩ = some (.int .i64 (v.P p).ln)) := ⟨hb, (hc p hp).2.1⟩
  have hpi : (p : Int) < (v.n : Int) := by omega
  have hp0 : (0 : Int) ≤ (p : Int) := by omega
  have hl := ok.ln p hp
  have hn := ok.n1
  clear hc hP ok hb
  have S0 : Hid (Below w.heap.size w ((w.alloc (.cells #[.slice (some ⟨b, off, none⟩) v.n pc, .slice ja v.m jc] 38)).alloc (.cells #[.int .i64 (p : Int), .int .i64 a, .int .i64 way] 40)) ∧ Box ((w.alloc (.cells #[.slice (some ⟨b, off, none⟩) v.n pc, .slice ja v.m jc] 38)).alloc (.cells #[.int .i64 (p : Int), .int .i64 a, .int .i64 way] 40)) w.heap.size 38 #[.slice (some ⟨b, off, none⟩) v.n pc, .slice ja v.m jc] ∧ Box ((w.alloc (.cells #[.slice (some ⟨b, off, none⟩) v.n pc, .slice ja v.m jc] 38)).alloc (.cells #[.int .i64 (p : Int), .int .i64 a, .int .i64 way] 40)) (w.heap.size + 1) 40 #[.int .i64 (p : Int), .int .i64 a, .int .i64 way]) := ⟨bel2 _ _ _, (Box.new _ _ _).alloc _, by have := Box.new (w.alloc (.cells #[.slice (some ⟨b, off, none⟩) v.n pc, .slice ja v.m jc] 38)) 40 #[.int .i64 (p : Int), .int .i64 a, .int .i64 way]; simpa using this⟩
  obtain ⟨R, HR⟩ : ∃ R, Hid ((if way = 1 then (v.P p).ln - a else a) = R) := ⟨_, rfl⟩
  have HB : Hid (0 ≤ R ∧ R ≤ (v.P p).ln ∧ (v.P p).ln - R = farI (v.P p).ln a way) := by
    show _ ∧ _ ∧ _
    rw [← HR.out, farI]
    split <;> omega
  have hwr : IntKind.i64.wrap ((v.P p).ln - R) = (v.P p).ln - R := by have := HB.out; rw [IntKind.wrap_i64]; omega
  rw [← HB.out.2.2]
  go_enter Tryz.func41, Tryz.ntmps41
  go_upto_region 1 with fail
  generalize ((w.alloc (.cells #[.slice (some ⟨b, off, none⟩) v.n pc, .slice ja v.m jc] 38)).alloc (.cells #[.int .i64 (p : Int), .int .i64 a, .int .i64 way] 40)) = V0 at S0 ⊢
  have c1 : V0.cell? ⟨b, off + p * 4 + 1, none⟩ = some (.int .i64 (v.P p).ln) := cell_keep S0.out.1 HC1.out.1 HC1.out.2
  have n0 : V0.cell? ⟨w.heap.size, 0, none⟩ = some (.slice (some ⟨b, off, none⟩) v.n pc) := S0.out.2.1.cell 0
  have n1 : V0.cell? ⟨w.heap.size, 1, none⟩ = some (.slice ja v.m jc) := S0.out.2.1.cell 1
  have s0 : V0.cell? ⟨w.heap.size + 1, 0, none⟩ = some (.int .i64 (p : Int)) := S0.out.2.2.cell 0
  have s1 : V0.cell? ⟨w.heap.size + 1, 1, none⟩ = some (.int .i64 a) := S0.out.2.2.cell 1
  have s2 : V0.cell? ⟨w.heap.size + 1, 2, none⟩ = some (.int .i64 way) := S0.out.2.2.cell 2
  have MD : Hid (Below w.heap.size w V0.drew) := S0.out.1.drew
  go_wp2_with fail
  refine wp_region_held_drew (S := (fun wx : World => wx.cell? ⟨w.heap.size, 0, none⟩ = some (.slice (some ⟨b, off, none⟩) v.n pc) ∧ wx.cell? ⟨w.heap.size, 1, none⟩ = some (.slice ja v.m jc) ∧ wx.cell? ⟨w.heap.size + 1, 0, none⟩ = some (.int .i64 (p : Int)) ∧ wx.cell? ⟨w.heap.size + 1, 1, none⟩ = some (.int .i64 a) ∧ wx.cell? ⟨w.heap.size + 1, 2, none⟩ = some (.int .i64 way) ∧ wx.cell? ⟨b, off + p * 4 + 1, none⟩ = some (.int .i64 (v.P p).ln))) (by kernel_rfl) ?_ (fun hHeld => ?_)
  · exact ⟨n0, n1, s0, s1, s2, c1⟩
  refine tk 0 ?_
  refine tk 1 ?_
  refine tk 2 ?_
  refine tk 3 ?_
  refine tk 4 ?_
  refine tk 5 ?_
  refine tk 6 ?_
  refine tk 7 ?_
  refine tk 8 ?_
  refine rl 9 fun K hK => ?_
  go_simp
  refine (room90 HP.out.2 (some ⟨b, off, none⟩) pc ja jc p a way _ hp ha (HP.out.1.mono (Nat.le_refl _) MD.out (Nat.le_refl _))).mono ?_
  rintro e w1 ⟨he, hb1⟩
  rw [HR.out] at he
  subst he
  have B1 := MD.out.trans (hb1.mono MD.out.size)
  have N1 := (S0.out.2.1.drew).mono hb1 (Nat.le_refl _)
  have S1 := (S0.out.2.2.drew).mono hb1 (Nat.le_refl _)
  go_wp2_with fail
  refine hK.out _ _ ?_ (fun hHeld9 => ?_)
  · exact ⟨N1.cell 0, N1.cell 1, S1.cell 0, S1.cell 1, S1.cell 2, cell_keep B1 HC1.out.1 HC1.out.2⟩
  clear hK K
  refine tk 10 ?_
  refine tk 11 ?_
  refine wpAnyH_done (by kernel_rfl) ?_ _
  have HE : Hid (Below w.heap.size w w1) := B1
  clear n0 n1 s0 s1 s2 c1 B1 hb1 N1 S1 MD
  go_wp2_with fail
  go_ret
  exact ⟨by rw [← hwr]; rfl, HE.out⟩

end Go.Proofs.YtoennemahlakeaaGreat
