import Derived.Test.YtjhmaofjmalglaaGreatXa
namespace Go.Proofs.YtjhmaofjmalglaaGreat
open Go.RowKit Go.Lib

theorem infoPart : (Tryz.prog.info? 112).map (fun i => (i.zero, i.size, i.bytes)) = some (some (.agg #[.int .i64 0, .int .i64 0, .int .i64 0]), 3, 24) := by kernel_rfl
/-- where a part begins, where it ends -/
def pfA (ln wy a b : Int) : Int := if wy = 1 then a else ln - b
def pfB (ln wy a b : Int) : Int := if wy = 1 then b else ln - a
/-- the parts of stretches -/
def prF (v : Nv) (G : Nat → Nat → Int) (i c : Nat) : Int := if c = 0 then G i 0 else if c = 1 then pfA (v.P (G i 0).toNat).ln (G i 1) (G i 2) (G i 3) else pfB (v.P (G i 0).toNat).ln (G i 1) (G i 2) (G i 3)
set_option maxRecDepth 100000 in
set_option maxHeartbeats 4000000 in
theorem part94 {v : Nv} (ok : v.Ok) {bt sb : Nat} {pa : Option Addr} {pc : Nat} {ja : Option Addr} {jc : Nat} (sp : Nat) (wy a b : Int) (w : World) (h : TkAt w bt sb v pa pc ja jc) (hspn : sp < v.n) (hw : wy = 1 ∨ wy = -1) (ha : 0 ≤ a ∧ a ≤ 10000000) (hb0 : 0 ≤ b ∧ b ≤ 10000000) :
    Calls Tryz.prog 137 #[.pointer (some ⟨bt, 0, none⟩), .agg #[.int .i64 (sp : Int), .int .i64 wy], .int .i64 a, .int .i64 b] w fun e w' => e = .returned (.agg #[.int .i64 (sp : Int), .int .i64 (pfA (v.P sp).ln wy a b), .int .i64 (pfB (v.P sp).ln wy a b)]) ∧ Below w.heap.size w w' := by
  have hl := ok.ln sp hspn
  have H : Hid (v.Ok ∧ TkAt w bt sb v pa pc ja jc) := ⟨ok, h⟩
  clear ok h
  rcases hw with rfl | rfl
  · go_enter Tryz.func137, Tryz.ntmps137
    go_wp2_with fail
    exact bodyPost_ret (v := .agg #[.int .i64 (sp : Int), .int .i64 a, .int .i64 b]) (by simp [results, Tryz.results137, go_sem]) rfl ⟨rfl, bel2 _ _ _⟩
  · have hwa : IntKind.i64.wrap ((v.P sp).ln - a) = (v.P sp).ln - a := by rw [IntKind.wrap_i64]; omega
    have hwb : IntKind.i64.wrap ((v.P sp).ln - b) = (v.P sp).ln - b := by rw [IntKind.wrap_i64]; omega
    have S0 : Hid (Below w.heap.size w ((w.alloc (.cells #[.int .i64 (sp : Int), .int .i64 (-1)] 74)).alloc (.cells #[.int .i64 0, .int .i64 0, .int .i64 0] 112)) ∧ Box ((w.alloc (.cells #[.int .i64 (sp : Int), .int .i64 (-1)] 74)).alloc (.cells #[.int .i64 0, .int .i64 0, .int .i64 0] 112)) (w.heap.size) 74 #[.int .i64 (sp : Int), .int .i64 (-1)] ∧ Box ((w.alloc (.cells #[.int .i64 (sp : Int), .int .i64 (-1)] 74)).alloc (.cells #[.int .i64 0, .int .i64 0, .int .i64 0] 112)) (w.heap.size + 1) 112 #[.int .i64 0, .int .i64 0, .int .i64 0]) := ⟨bel2 _ _ _, (Box.new _ _ _).alloc _, by have := Box.new (w.alloc (.cells #[.int .i64 (sp : Int), .int .i64 (-1)] 74)) 112 #[.int .i64 0, .int .i64 0, .int .i64 0]; simpa using this⟩
    go_enter Tryz.func137, Tryz.ntmps137
    go_upto_region 3 with fail
    generalize ((w.alloc (.cells #[.int .i64 (sp : Int), .int .i64 (-1)] 74)).alloc (.cells #[.int .i64 0, .int .i64 0, .int .i64 0] 112)) = V0 at S0 ⊢
    have MD : Hid (Below w.heap.size w V0.drew ∧ Box V0.drew (w.heap.size) 74 #[.int .i64 (sp : Int), .int .i64 (-1)] ∧ Box V0.drew (w.heap.size + 1) 112 #[.int .i64 0, .int .i64 0, .int .i64 0]) := ⟨S0.out.1.drew, S0.out.2.1.drew, S0.out.2.2.drew⟩
    have a0 : V0.cell? ⟨w.heap.size, 0, none⟩ = some (.int .i64 (sp : Int)) := S0.out.2.1.cell 0
    have a1 : V0.cell? ⟨w.heap.size, 1, none⟩ = some (.int .i64 (-1)) := S0.out.2.1.cell 1
    have b0 : V0.cell? ⟨w.heap.size + 1, 0, none⟩ = some (.int .i64 0) := S0.out.2.2.cell 0
    have b1 : V0.cell? ⟨w.heap.size + 1, 1, none⟩ = some (.int .i64 0) := S0.out.2.2.cell 1
    have b2 : V0.cell? ⟨w.heap.size + 1, 2, none⟩ = some (.int .i64 0) := S0.out.2.2.cell 2
    go_wp2_with fail
    refine wp_region_held_drew (S := (fun wx : World => wx.cell? ⟨w.heap.size, 0, none⟩ = some (.int .i64 (sp : Int)) ∧ wx.cell? ⟨w.heap.size, 1, none⟩ = some (.int .i64 (-1)))) (by kernel_rfl) ?_ (fun hHeld => ?_)
    · exact ⟨a0, a1⟩
    refine tk 0 ?_
    refine tk 1 ?_
    refine tk 2 ?_
    refine tk 3 ?_
    refine tk 5 ?_
    refine tk 7 ?_
    refine tk 8 ?_
    refine tk 10 ?_
    refine rl 4 fun K hK => ?_
    go_simp
    refine (long99 H.out.1 sp (-1) _ (H.out.2.mono MD.out.1 (Nat.le_refl _)) hspn).mono ?_
    rintro e w1 ⟨rfl, hb⟩
    have M1 : Hid (Below w.heap.size w w1 ∧ Box w1 (w.heap.size) 74 #[.int .i64 (sp : Int), .int .i64 (-1)] ∧ Box w1 (w.heap.size + 1) 112 #[.int .i64 0, .int .i64 0, .int .i64 0]) := ⟨MD.out.1.trans (hb.mono MD.out.1.size), MD.out.2.1.mono hb (Nat.le_refl _), MD.out.2.2.mono hb (Nat.le_refl _)⟩
    clear hb
    go_wp2_with fail
    refine hK.out _ _ ?_ (fun hHeld4 => ?_)
    · exact ⟨M1.out.2.1.cell 0, M1.out.2.1.cell 1⟩
    clear hK K
    refine tk 6 ?_
    refine rl 9 fun K hK => ?_
    go_simp
    refine (long99 H.out.1 sp (-1) _ (H.out.2.mono M1.out.1 (Nat.le_refl _)) hspn).mono ?_
    rintro e w2 ⟨rfl, hb⟩
    have M2 : Hid (Below w.heap.size w w2 ∧ Box w2 (w.heap.size) 74 #[.int .i64 (sp : Int), .int .i64 (-1)] ∧ Box w2 (w.heap.size + 1) 112 #[.int .i64 0, .int .i64 0, .int .i64 0]) := ⟨M1.out.1.trans (hb.mono M1.out.1.size), M1.out.2.1.mono hb (Nat.le_refl _), M1.out.2.2.mono hb (Nat.le_refl _)⟩
    clear hb
    go_wp2_with fail
    refine hK.out _ _ ?_ (fun hHeld9 => ?_)
    · exact ⟨M2.out.2.1.cell 0, M2.out.2.1.cell 1⟩
    clear hK K
    refine tk 11 ?_
    refine tk 12 ?_
    refine rl 13 fun K hK => ?_
    have z0 : w2.cell? ⟨w.heap.size + 1, 0, none⟩ = some (.int .i64 0) := M2.out.2.2.cell 0
    have z1 : w2.cell? ⟨w.heap.size + 1, 1, none⟩ = some (.int .i64 0) := M2.out.2.2.cell 1
    have z2 : w2.cell? ⟨w.heap.size + 1, 2, none⟩ = some (.int .i64 0) := M2.out.2.2.cell 2
    have q0 := M2.out.2.2.free 0
    have q1 := M2.out.2.2.free 1
    have q2 := M2.out.2.2.free 2
    have e1 : w.heap.size ≠ w.heap.size + 1 := by omega
    have M4 : Hid (Below w.heap.size w (((w2.setCell ⟨w.heap.size + 1, 0, none⟩ (.int .i64 (sp : Int))).setCell ⟨w.heap.size + 1, 1, none⟩ (.int .i64 ((v.P sp).ln - b))).setCell ⟨w.heap.size + 1, 2, none⟩ (.int .i64 ((v.P sp).ln - a))) ∧ Box (((w2.setCell ⟨w.heap.size + 1, 0, none⟩ (.int .i64 (sp : Int))).setCell ⟨w.heap.size + 1, 1, none⟩ (.int .i64 ((v.P sp).ln - b))).setCell ⟨w.heap.size + 1, 2, none⟩ (.int .i64 ((v.P sp).ln - a))) (w.heap.size) 74 #[.int .i64 (sp : Int), .int .i64 (-1)] ∧ Box (((w2.setCell ⟨w.heap.size + 1, 0, none⟩ (.int .i64 (sp : Int))).setCell ⟨w.heap.size + 1, 1, none⟩ (.int .i64 ((v.P sp).ln - b))).setCell ⟨w.heap.size + 1, 2, none⟩ (.int .i64 ((v.P sp).ln - a))) (w.heap.size + 1) 112 #[.int .i64 (sp : Int), .int .i64 ((v.P sp).ln - b), .int .i64 ((v.P sp).ln - a)]) := ⟨(((M2.out.1.setCell (Nat.le_add_right _ 1) _).setCell (Nat.le_add_right _ 1) _).setCell (Nat.le_add_right _ 1) _), (((M2.out.2.1.other e1 _).other e1 _).other e1 _), (((M2.out.2.2.set 0 (.int .i64 (sp : Int))).set 1 (.int .i64 ((v.P sp).ln - b))).set 2 (.int .i64 ((v.P sp).ln - a)))⟩
    go_simp
    refine hK.out _ _ ?_ (fun hHeld13 => ?_)
    · exact ⟨M4.out.2.1.cell 0, M4.out.2.1.cell 1⟩
    clear hK K
    refine wpAnyH_done (by kernel_rfl) ?_ _
    clear a0 a1 b0 b1 b2 z0 z1 z2 q0 q1 q2 S0 MD M1 M2
    generalize (((w2.setCell ⟨w.heap.size + 1, 0, none⟩ (.int .i64 (sp : Int))).setCell ⟨w.heap.size + 1, 1, none⟩ (.int .i64 ((v.P sp).ln - b))).setCell ⟨w.heap.size + 1, 2, none⟩ (.int .i64 ((v.P sp).ln - a))) = W9 at M4 ⊢
    have z0 : W9.cell? ⟨w.heap.size + 1, 0, none⟩ = some (.int .i64 (sp : Int)) := M4.out.2.2.cell 0
    have z1 : W9.cell? ⟨w.heap.size + 1, 1, none⟩ = some (.int .i64 ((v.P sp).ln - b)) := M4.out.2.2.cell 1
    have z2 : W9.cell? ⟨w.heap.size + 1, 2, none⟩ = some (.int .i64 ((v.P sp).ln - a)) := M4.out.2.2.cell 2
    go_wp2_with fail
    exact bodyPost_ret (v := .agg #[.int .i64 (sp : Int), .int .i64 ((v.P sp).ln - b), .int .i64 ((v.P sp).ln - a)]) (by simp [results, Tryz.results137, go_sem, z0, z1, z2]) rfl ⟨rfl, M4.out.1⟩
set_option maxRecDepth 100000 in
set_option maxHeartbeats 4000000 in
theorem partOf64 {v : Nv} (ok : v.Ok) {bt sb : Nat} {pa : Option Addr} {pc : Nat} {ja : Option Addr} {jc : Nat} (sp : Nat) (wy a b : Int) (w : World) (h : TkAt w bt sb v pa pc ja jc) (hspn : sp < v.n) (hw : wy = 1 ∨ wy = -1) (ha : 0 ≤ a ∧ a ≤ 10000000) (hb0 : 0 ≤ b ∧ b ≤ 10000000) :
    Calls Tryz.prog 133 #[.pointer (some ⟨bt, 0, none⟩), .agg #[.int .i64 (sp : Int), .int .i64 wy, .int .i64 a, .int .i64 b]] w fun e w' => e = .returned (.agg #[.int .i64 (sp : Int), .int .i64 (pfA (v.P sp).ln wy a b), .int .i64 (pfB (v.P sp).ln wy a b)]) ∧ Below w.heap.size w w' := by
  have H : Hid (v.Ok ∧ TkAt w bt sb v pa pc ja jc) := ⟨ok, h⟩
  have S0 : Hid (Below w.heap.size w ((w.alloc (.cells #[.int .i64 (sp : Int), .int .i64 wy, .int .i64 a, .int .i64 b] 197)).alloc (.cells #[.int .i64 0, .int .i64 0, .int .i64 0] 112)) ∧ Box ((w.alloc (.cells #[.int .i64 (sp : Int), .int .i64 wy, .int .i64 a, .int .i64 b] 197)).alloc (.cells #[.int .i64 0, .int .i64 0, .int .i64 0] 112)) (w.heap.size) 197 #[.int .i64 (sp : Int), .int .i64 wy, .int .i64 a, .int .i64 b] ∧ Box ((w.alloc (.cells #[.int .i64 (sp : Int), .int .i64 wy, .int .i64 a, .int .i64 b] 197)).alloc (.cells #[.int .i64 0, .int .i64 0, .int .i64 0] 112)) (w.heap.size + 1) 112 #[.int .i64 0, .int .i64 0, .int .i64 0]) := ⟨bel2 _ _ _, (Box.new _ _ _).alloc _, by have := Box.new (w.alloc (.cells #[.int .i64 (sp : Int), .int .i64 wy, .int .i64 a, .int .i64 b] 197)) 112 #[.int .i64 0, .int .i64 0, .int .i64 0]; simpa using this⟩
  clear ok h
  go_enter Tryz.func133, Tryz.ntmps133
  go_upto_region 1 with fail
  generalize ((w.alloc (.cells #[.int .i64 (sp : Int), .int .i64 wy, .int .i64 a, .int .i64 b] 197)).alloc (.cells #[.int .i64 0, .int .i64 0, .int .i64 0] 112)) = V0 at S0 ⊢
  have a0 : V0.cell? ⟨w.heap.size, 0, none⟩ = some (.int .i64 (sp : Int)) := S0.out.2.1.cell 0
  have a1 : V0.cell? ⟨w.heap.size, 1, none⟩ = some (.int .i64 wy) := S0.out.2.1.cell 1
  have a2 : V0.cell? ⟨w.heap.size, 2, none⟩ = some (.int .i64 a) := S0.out.2.1.cell 2
  have a3 : V0.cell? ⟨w.heap.size, 3, none⟩ = some (.int .i64 b) := S0.out.2.1.cell 3
  have b0 : V0.cell? ⟨w.heap.size + 1, 0, none⟩ = some (.int .i64 0) := S0.out.2.2.cell 0
  have b1 : V0.cell? ⟨w.heap.size + 1, 1, none⟩ = some (.int .i64 0) := S0.out.2.2.cell 1
  have b2 : V0.cell? ⟨w.heap.size + 1, 2, none⟩ = some (.int .i64 0) := S0.out.2.2.cell 2
  go_wp2_with fail
  clear a0 a1 a2 a3 b0 b1 b2
  refine (part94 H.out.1 sp wy a b V0 (H.out.2.mono S0.out.1 (Nat.le_refl _)) hspn hw ha hb0).mono ?_
  rintro e w1 ⟨rfl, hb⟩
  have M1 : Hid (Below w.heap.size w w1 ∧ Box w1 (w.heap.size) 197 #[.int .i64 (sp : Int), .int .i64 wy, .int .i64 a, .int .i64 b] ∧ Box w1 (w.heap.size + 1) 112 #[.int .i64 0, .int .i64 0, .int .i64 0]) := ⟨S0.out.1.trans (hb.mono S0.out.1.size), S0.out.2.1.mono hb (Nat.le_refl _), S0.out.2.2.mono hb (Nat.le_refl _)⟩
  clear hb S0
  have z0 : w1.cell? ⟨w.heap.size + 1, 0, none⟩ = some (.int .i64 0) := M1.out.2.2.cell 0
  have z1 : w1.cell? ⟨w.heap.size + 1, 1, none⟩ = some (.int .i64 0) := M1.out.2.2.cell 1
  have z2 : w1.cell? ⟨w.heap.size + 1, 2, none⟩ = some (.int .i64 0) := M1.out.2.2.cell 2
  have q0 := M1.out.2.2.free 0
  have q1 := M1.out.2.2.free 1
  have q2 := M1.out.2.2.free 2
  have M4 : Hid (Below w.heap.size w (((w1.setCell ⟨w.heap.size + 1, 0, none⟩ (.int .i64 (sp : Int))).setCell ⟨w.heap.size + 1, 1, none⟩ (.int .i64 (pfA (v.P sp).ln wy a b))).setCell ⟨w.heap.size + 1, 2, none⟩ (.int .i64 (pfB (v.P sp).ln wy a b))) ∧ Box (((w1.setCell ⟨w.heap.size + 1, 0, none⟩ (.int .i64 (sp : Int))).setCell ⟨w.heap.size + 1, 1, none⟩ (.int .i64 (pfA (v.P sp).ln wy a b))).setCell ⟨w.heap.size + 1, 2, none⟩ (.int .i64 (pfB (v.P sp).ln wy a b))) (w.heap.size + 1) 112 #[.int .i64 (sp : Int), .int .i64 (pfA (v.P sp).ln wy a b), .int .i64 (pfB (v.P sp).ln wy a b)]) := ⟨(((M1.out.1.setCell (Nat.le_add_right _ 1) _).setCell (Nat.le_add_right _ 1) _).setCell (Nat.le_add_right _ 1) _), (((M1.out.2.2.set 0 (.int .i64 (sp : Int))).set 1 (.int .i64 (pfA (v.P sp).ln wy a b))).set 2 (.int .i64 (pfB (v.P sp).ln wy a b)))⟩
  clear M1
  go_wp2_with fail
  clear z0 z1 z2 q0 q1 q2
  generalize (((w1.setCell ⟨w.heap.size + 1, 0, none⟩ (.int .i64 (sp : Int))).setCell ⟨w.heap.size + 1, 1, none⟩ (.int .i64 (pfA (v.P sp).ln wy a b))).setCell ⟨w.heap.size + 1, 2, none⟩ (.int .i64 (pfB (v.P sp).ln wy a b))) = W9 at M4 ⊢
  have z0 : W9.cell? ⟨w.heap.size + 1, 0, none⟩ = some (.int .i64 (sp : Int)) := M4.out.2.cell 0
  have z1 : W9.cell? ⟨w.heap.size + 1, 1, none⟩ = some (.int .i64 (pfA (v.P sp).ln wy a b)) := M4.out.2.cell 1
  have z2 : W9.cell? ⟨w.heap.size + 1, 2, none⟩ = some (.int .i64 (pfB (v.P sp).ln wy a b)) := M4.out.2.cell 2
  exact bodyPost_ret (v := .agg #[.int .i64 (sp : Int), .int .i64 (pfA (v.P sp).ln wy a b), .int .i64 (pfB (v.P sp).ln wy a b)]) (by simp [results, Tryz.results133, go_sem, z0, z1, z2]) rfl ⟨rfl, M4.out.1⟩
theorem app3b {w W w6 : World} {vo v2 : Value} {n : Nat} {G : Nat → Nat → Value} {o : Obj} (hb : Below w.heap.size w W) (ho : VOwn w.heap.size 112 3 W vo n G) (h2 : VOwn w.heap.size 112 3 w6 v2 (n + 1) G) (hg : (W.alloc o).grownBy w6 vo.ownBlock) : Below w.heap.size w w6 ∧ VOwn w.heap.size 112 3 w6 v2 (n + 1) G :=
  ⟨(hb.alloc hb.size o).grown hg (hb.alloc hb.size o).size (fun _ hj => (ho.lt hj).1), h2⟩
set_option maxRecDepth 100000 in
set_option maxHeartbeats 8000000 in
theorem mapped62 {v : Nv} (ok : v.Ok) {bt sb : Nat} {pa : Option Addr} {pc : Nat} {ja : Option Addr} {jc : Nat} (ia : Option Addr) (n ic : Nat) (G : Nat → Nat → Int) (w : World) (h : TkAt w bt sb v pa pc ja jc) (hn : n ≤ 300) (hG : SgOk v n G) (hI : VsAt 4 0 w ia n (intF G)) :
    Calls Tryz.prog 131 #[.slice ia n ic, .func (.func 133) #[.pointer (some ⟨bt, 0, none⟩)] #[]] w fun e w' => ∃ a c, e = .returned (.slice a n c) ∧ VOwn w.heap.size 112 3 w' (.slice a n c) n (intF (prF v G)) ∧ Below w.heap.size w w' := by
  have H : Hid (v.Ok ∧ TkAt w bt sb v pa pc ja jc ∧ SgOk v n G ∧ VsAt 4 0 w ia n (intF G)) := ⟨ok, h, hG, hI⟩
  obtain ⟨i0, hi0, hz0, hs0, hb0⟩ := info_parts infoPart
  clear ok h hG hI
  go_enter Tryz.func131, Tryz.ntmps131
  go_wp2_with fail
  go_loopw [5, 10] (fun u c wr => ∃ (k : Nat) (oa : Option Addr) (oc : Nat), k ≤ n ∧ c = .int .i64 k ∧ u = .slice oa k oc ∧ Hid (Below w.heap.size w wr ∧ VOwn w.heap.size 112 3 wr (.slice oa k oc) k (intF (prF v G)))) (fun _ c _ => n - (intOf c).toNat)
  case atStart => exact ⟨0, none, 0, Nat.zero_le _, rfl, rfl, ⟨Below.refl _ _, VOwn.nil _ _ _ _ _⟩⟩
  case round =>
    obtain ⟨k, oa, oc, hk, rfl, rfl, D⟩ := hrel
    by_cases hlt : k < n
    · obtain ⟨sp, HSP, hspn, hw, h2, h3⟩ := H.out.2.2.1 k hlt
      obtain ⟨wy, HWY⟩ : ∃ q, Hid (G k 1 = q) := ⟨_, rfl⟩
      obtain ⟨a, HA⟩ : ∃ q, Hid (G k 2 = q) := ⟨_, rfl⟩
      obtain ⟨b, HB⟩ : ∃ q, Hid (G k 3 = q) := ⟨_, rfl⟩
      obtain ⟨ib, io, hie, _, hib, hic⟩ := H.out.2.2.2 (by omega)
      subst hie
      have d0 : wr.cell? ⟨ib, io + k * 4, none⟩ = some (.int .i64 (sp : Int)) := cell_keep D.out.1 hib (by have := hic k hlt 0 (by omega); rw [← HSP]; exact this)
      have d1 : wr.cell? ⟨ib, io + k * 4 + 1, none⟩ = some (.int .i64 wy) := cell_keep D.out.1 hib (by have := hic k hlt 1 (by omega); rw [← HWY.out]; exact this)
      have d2 : wr.cell? ⟨ib, io + k * 4 + 2, none⟩ = some (.int .i64 a) := cell_keep D.out.1 hib (by have := hic k hlt 2 (by omega); rw [← HA.out]; exact this)
      have d3 : wr.cell? ⟨ib, io + k * 4 + 3, none⟩ = some (.int .i64 b) := cell_keep D.out.1 hib (by have := hic k hlt 3 (by omega); rw [← HB.out]; exact this)
      have HSP2 : Hid (G k 0 = (sp : Int)) := HSP
      rw [HWY.out] at hw
      rw [HA.out] at h2
      rw [HB.out] at h3
      clear hic hib HSP
      have hk0 : (0 : Int) ≤ (k : Int) := by omega
      have hkn : (k : Int) < (n : Int) := by omega
      have D1 : Hid ((Below w.heap.size w (wr.alloc (.cells #[.int .i64 (sp : Int), .int .i64 wy, .int .i64 a, .int .i64 b] 197)) ∧ VOwn w.heap.size 112 3 (wr.alloc (.cells #[.int .i64 (sp : Int), .int .i64 wy, .int .i64 a, .int .i64 b] 197)) (.slice oa k oc) k (intF (prF v G))) ∧ Box (wr.alloc (.cells #[.int .i64 (sp : Int), .int .i64 wy, .int .i64 a, .int .i64 b] 197)) wr.heap.size 197 #[.int .i64 (sp : Int), .int .i64 wy, .int .i64 a, .int .i64 b]) := ⟨⟨D.out.1.alloc D.out.1.size _, D.out.2.alloc _⟩, Box.new _ _ _⟩
      clear D
      go_upto_region 5 with fail
      clear d0 d1 d2 d3
      generalize wr.alloc (.cells #[.int .i64 (sp : Int), .int .i64 wy, .int .i64 a, .int .i64 b] 197) = V5 at D1 ⊢
      generalize wr.heap.size = sq at D1 ⊢
      have s0 : V5.cell? ⟨sq, 0, none⟩ = some (.int .i64 (sp : Int)) := D1.out.2.cell 0
      have s1 : V5.cell? ⟨sq, 1, none⟩ = some (.int .i64 wy) := D1.out.2.cell 1
      have s2 : V5.cell? ⟨sq, 2, none⟩ = some (.int .i64 a) := D1.out.2.cell 2
      have s3 : V5.cell? ⟨sq, 3, none⟩ = some (.int .i64 b) := D1.out.2.cell 3
      go_wp2_with fail
      clear s0 s1 s2 s3
      refine (partOf64 H.out.1 sp wy a b V5 (H.out.2.1.mono D1.out.1.1 (Nat.le_refl _)) hspn hw h2 h3).mono ?_
      rintro e w5 ⟨rfl, hb5⟩
      have D2 : Hid (Below w.heap.size w w5 ∧ VOwn w.heap.size 112 3 w5 (.slice oa k oc) k (intF (prF v G))) := ⟨D1.out.1.1.trans (hb5.mono D1.out.1.1.size), D1.out.1.2.mono (Nat.le_refl _) hb5 (Nat.le_refl _)⟩
      clear hb5 D1
      obtain ⟨t2, HT2⟩ : ∃ q, Hid (pfA (v.P sp).ln wy a b = q) := ⟨_, rfl⟩
      obtain ⟨t3, HT3⟩ : ∃ q, Hid (pfB (v.P sp).ln wy a b = q) := ⟨_, rfl⟩
      rw [HT2.out, HT3.out]
      have HVS : Hid ((#[.int .i64 (sp : Int), .int .i64 t2, .int .i64 t3] : Array Value).toList = (List.range 3).map (intF (prF v G) k)) := by
        have e0 : prF v G k 0 = (sp : Int) := HSP2.out
        have e1 : prF v G k 1 = t2 := by rw [← HT2.out, ← HB.out, ← HA.out, ← HWY.out]; show pfA (v.P (G k 0).toNat).ln (G k 1) (G k 2) (G k 3) = _; rw [HSP2.out, Int.toNat_natCast]
        have e2 : prF v G k 2 = t3 := by rw [← HT3.out, ← HB.out, ← HA.out, ← HWY.out]; show pfB (v.P (G k 0).toNat).ln (G k 1) (G k 2) (G k 3) = _; rw [HSP2.out, Int.toNat_natCast]
        show _ = _
        simp [List.range_succ, intF, e0, e1, e2]
      have hsz : w.heap.size ≤ (w5.alloc (.cells #[.int .i64 (sp : Int), .int .i64 t2, .int .i64 t3] 112)).heap.size := (D2.out.1.alloc D2.out.1.size _).size
      go_wp2_with (at_builtin; go_must (refine wpList_vapp _ rfl _ _ 59 rfl w.heap.size 112 i0 _ 3 24 Tryz.underlying59 hi0 hz0 hs0 hb0 rfl (by decide) (.slice oa k oc) k (intF (prF v G)) rfl (D2.out.2.alloc _) (fun _ _ => rfl) w5.heap.size 1 #[.int .i64 (sp : Int), .int .i64 t2, .int .i64 t3] rfl (Box.new _ _ _) HVS.out (by simp only [maxLen]; omega) (by omega) hsz (Halt.mk ?_)))
      intro v2 w6 ho2 hg2
      have HAp := app3b D2.out.1 D2.out.2 ho2 hg2
      obtain ⟨a2, c2, rfl⟩ := ho2.val
      have HD : Hid (Below w.heap.size w w6 ∧ VOwn w.heap.size 112 3 w6 (.slice a2 (k + 1) c2) (k + 1) (intF (prF v G))) := HAp
      clear HAp ho2 hg2 hsz D2
      go_wp2_with fail
      go_roundw
      case rel => exact ⟨k + 1, a2, c2, by omega, by go_num, rfl, HD⟩
      case measure => simp [intOf]; omega
    · obtain rfl : k = n := by omega
      go_wp2_with fail
      go_ret
      exact ⟨oa, oc, rfl, D.out.2, D.out.1⟩

set_option maxRecDepth 100000 in
set_option maxHeartbeats 8000000 in
theorem parts31 {v : Nv} (ok : v.Ok) {bt sb : Nat} {pa : Option Addr} {pc : Nat} {ja : Option Addr} {jc : Nat} (fp fa fw lg : Int) (nb : Nat) (B : Nat → Nat → Int) (bb bo bk : Nat) (w : World) (h : TkAt w bt sb v pa pc ja jc) (ht : Trn v fp fa fw lg nb B) (hB : NsAt 2 0 w (some ⟨bb, bo, none⟩) nb B) :
    Calls Tryz.prog 103 #[.pointer (some ⟨bt, 0, none⟩), .agg #[.int .i64 fp, .int .i64 fa, .int .i64 fw, .int .i64 lg, .slice (some ⟨bb, bo, none⟩) nb bk]] w fun e w' => ∃ a c, e = .returned (.slice a (nb + 1 - noF v fp fa fw B) c) ∧ VOwn w.heap.size 112 3 w' (.slice a (nb + 1 - noF v fp fa fw B) c) (nb + 1 - noF v fp fa fw B) (intF (prF v (stG v fp fa fw lg nb B))) ∧ Below w.heap.size w w' := by
  have H : Hid (v.Ok ∧ Trn v fp fa fw lg nb B ∧ TkAt w bt sb v pa pc ja jc ∧ NsAt 2 0 w (some ⟨bb, bo, none⟩) nb B) := ⟨ok, ht, h, hB⟩
  have hnb := ht.nb1
  have hno := ht.no
  obtain ⟨N, HNN⟩ : ∃ N, Hid ((nb + 1 - noF v fp fa fw B) = N) := ⟨_, rfl⟩
  rw [HNN.out]
  have hN1 : N ≤ 300 := by have := HNN.out; omega
  have S0 : Hid (Below w.heap.size w (w.alloc (.cells #[.int .i64 fp, .int .i64 fa, .int .i64 fw, .int .i64 lg, .slice (some ⟨bb, bo, none⟩) nb bk] 90)) ∧ Box (w.alloc (.cells #[.int .i64 fp, .int .i64 fa, .int .i64 fw, .int .i64 lg, .slice (some ⟨bb, bo, none⟩) nb bk] 90)) (w.heap.size) 90 #[.int .i64 fp, .int .i64 fa, .int .i64 fw, .int .i64 lg, .slice (some ⟨bb, bo, none⟩) nb bk]) := ⟨bel1 _ _, Box.new _ _ _⟩
  clear ok ht h hB
  go_enter Tryz.func103, Tryz.ntmps103
  go_upto_region 1 with fail
  generalize (w.alloc (.cells #[.int .i64 fp, .int .i64 fa, .int .i64 fw, .int .i64 lg, .slice (some ⟨bb, bo, none⟩) nb bk] 90)) = V0 at S0 ⊢
  have a0 : V0.cell? ⟨w.heap.size, 0, none⟩ = some (.int .i64 fp) := S0.out.2.cell 0
  have a1 : V0.cell? ⟨w.heap.size, 1, none⟩ = some (.int .i64 fa) := S0.out.2.cell 1
  have a2 : V0.cell? ⟨w.heap.size, 2, none⟩ = some (.int .i64 fw) := S0.out.2.cell 2
  have a3 : V0.cell? ⟨w.heap.size, 3, none⟩ = some (.int .i64 lg) := S0.out.2.cell 3
  have a4 : V0.cell? ⟨w.heap.size, 4, none⟩ = some (.slice (some ⟨bb, bo, none⟩) nb bk) := S0.out.2.cell 4
  go_wp2_with fail
  clear a0 a1 a2 a3 a4
  refine (stretches73 H.out.1 fp fa fw lg nb B bb bo bk V0 (H.out.2.2.1.mono S0.out.1 (Nat.le_refl _)) H.out.2.1 (H.out.2.2.2.mono (Nat.le_refl _) S0.out.1 (Nat.le_refl _))).mono ?_
  rintro e w1 ⟨l1, m1, he, hl1, hb1⟩
  have M1 : Hid (Below w.heap.size w w1 ∧ VsAt 4 0 w1 l1 N (intF (stG v fp fa fw lg nb B))) := ⟨S0.out.1.trans (hb1.mono S0.out.1.size), by rw [HNN.out] at hl1; exact hl1.vs.le (Nat.zero_le _)⟩
  rw [HNN.out] at he
  subst he
  clear hb1 hl1 S0
  go_wp2_with fail
  refine (mapped62 H.out.1 l1 N m1 (stG v fp fa fw lg nb B) w1 (H.out.2.2.1.mono M1.out.1 (Nat.le_refl _)) (by omega) (by have := H.out.2.1.sg H.out.1; rw [HNN.out] at this; exact this) M1.out.2).mono ?_
  rintro e w2 ⟨l2, gc, rfl, hl2, hb2⟩
  have M2 : Hid (Below w.heap.size w w2 ∧ VOwn w.heap.size 112 3 w2 (.slice l2 N gc) N (intF (prF v (stG v fp fa fw lg nb B)))) := ⟨M1.out.1.trans (hb2.mono M1.out.1.size), hl2.keep M1.out.1.size fun _ _ => rfl⟩
  clear hl2 hb2 M1
  go_wp2_with fail
  go_ret
  exact ⟨l2, gc, rfl, M2.out.2, M2.out.1⟩

end Go.Proofs.YtjhmaofjmalglaaGreat
