import Derived.Test.YtjhmaofjmalglaaGreatZbq
namespace Go.Proofs.YtjhmaofjmalglaaGreat
open Go.RowKit Go.Lib
def Lst (w : World) (b off n : Nat) (B : Nat → Nat → Int) : Prop := b < w.heap.size ∧ ∀ i, i < n → ∀ j, j < 2 → w.cell? ⟨b, off + i * 2 + j, none⟩ = some (.int .i64 (B i j))
theorem Lst.ns {w : World} {b off n : Nat} {B : Nat → Nat → Int} (h : Lst w b off n B) : NsAt 2 0 w (some ⟨b, off, none⟩) n B := fun _ => ⟨b, off, rfl, Nat.zero_le _, h.1, h.2⟩
theorem Lst.cp {w : World} {b off n c : Nat} {B : Nat → Nat → Int} (h : Lst w b off n B) : CpAt w 2 (some ⟨b, off, none⟩) n c (intF B) := .inr ⟨b, off, rfl, h.1, h.2⟩
theorem Lst.mono {w w' : World} {b off n N : Nat} {B : Nat → Nat → Int} (h : Lst w b off n B) (hb : Below N w w') (hN : w.heap.size ≤ N) : Lst w' b off n B := ⟨Nat.lt_of_lt_of_le h.1 hb.size, fun i hi j hj => cell_keep hb (Nat.lt_of_lt_of_le h.1 hN) (h.2 i hi j hj)⟩
theorem Lst.fr {w w' : World} {b off n : Nat} {B : Nat → Nat → Int} {X : Nat → Prop} (h : Lst w b off n B) (hf : Fr X w w') (hx : ¬ X b) : Lst w' b off n B := ⟨Nat.lt_of_lt_of_le h.1 hf.size, fun i hi j hj => (World.cell?_of_block (a := ⟨b, off + i * 2 + j, none⟩) (hf.block b h.1 hx)).trans (h.2 i hi j hj)⟩
theorem Lst.take {w : World} {b off n z : Nat} {B : Nat → Nat → Int} (h : Lst w b off n B) (hz : z ≤ n) : Lst w b off z B := ⟨h.1, fun i hi => h.2 i (by omega)⟩
theorem Lst.own {M : Nat} {w : World} {g n c : Nat} {B : Nat → Nat → Int} (h : VOwn M 74 2 w (.slice (some ⟨g, 0, none⟩) n c) n (intF B)) : Lst w g 0 n B := ⟨(h.lt (g := g) rfl).2, fun i hi j hj => by rw [Nat.zero_add]; exact h.cell hi hj⟩
theorem Fr.put {q : Nat} {w W : World} (h : Fr (fun x => x = q) w W) (j : Nat) (u : Value) : Fr (fun x => x = q) w (W.setCell ⟨q, j, none⟩ u) :=
 ⟨h.os, h.tape, h.output, by rw [size_setc]; exact h.size, fun k hk hx => (Below.heap_setCell W _ u k hx).trans (h.block k hk hx)⟩
set_option maxRecDepth 100000 in
set_option maxHeartbeats 16000000 in
theorem room113 {v : Nv} (ok : v.Ok) {bt sb : Nat} {pa : Option Addr} {pc : Nat} {ja : Option Addr} {jc : Nat} (fp : Nat) (fa fw lg : Int) (ba : Option Addr) (nb bk : Nat) (la : Option Addr) (lc : Nat) (w : World) (h : TkAt w bt sb v pa pc ja jc) (hfp : fp < v.n) (hfa : 0 ≤ fa ∧ fa ≤ 10000000) :
  Calls Tryz.prog 113 #[.agg #[.pointer (some ⟨bt, 0, none⟩), .slice la v.m lc], .agg #[.int .i64 (fp : Int), .int .i64 fa, .int .i64 fw, .int .i64 lg, .slice ba nb bk]] w fun e w' => e = .returned (.int .i64 ((v.P fp).ln - farI (v.P fp).ln fa fw)) ∧ Below w.heap.size w w' := by
 have H : Hid (v.Ok ∧ TkAt w bt sb v pa pc ja jc) := ⟨ok, h⟩
 have hln := ok.ln fp hfp
 obtain ⟨al, HAL⟩ : ∃ a, Hid (farI (v.P fp).ln fa fw = a) := ⟨_, rfl⟩
 have hal : -10000000 ≤ al ∧ al ≤ 10000000 := by rw [← HAL.out]; unfold farI; split <;> omega
 have hwr : IntKind.i64.wrap ((v.P fp).ln - al) = (v.P fp).ln - al := by rw [IntKind.wrap_i64]; omega
 rw [HAL.out]
 have S0 : Hid (Below w.heap.size w ((w.alloc (.cells #[.pointer (some ⟨bt, 0, none⟩), .slice la v.m lc] 87)).alloc (.cells #[.int .i64 (fp : Int), .int .i64 fa, .int .i64 fw, .int .i64 lg, .slice ba nb bk] 90)) ∧ Box ((w.alloc (.cells #[.pointer (some ⟨bt, 0, none⟩), .slice la v.m lc] 87)).alloc (.cells #[.int .i64 (fp : Int), .int .i64 fa, .int .i64 fw, .int .i64 lg, .slice ba nb bk] 90)) (w.heap.size) 87 #[.pointer (some ⟨bt, 0, none⟩), .slice la v.m lc] ∧ Box ((w.alloc (.cells #[.pointer (some ⟨bt, 0, none⟩), .slice la v.m lc] 87)).alloc (.cells #[.int .i64 (fp : Int), .int .i64 fa, .int .i64 fw, .int .i64 lg, .slice ba nb bk] 90)) (w.heap.size + 1) 90 #[.int .i64 (fp : Int), .int .i64 fa, .int .i64 fw, .int .i64 lg, .slice ba nb bk]) := ⟨bel2 _ _ _, ((Box.new w 87 #[.pointer (some ⟨bt, 0, none⟩), .slice la v.m lc]).alloc (.cells #[.int .i64 (fp : Int), .int .i64 fa, .int .i64 fw, .int .i64 lg, .slice ba nb bk] 90)), by have := (Box.new (w.alloc (.cells #[.pointer (some ⟨bt, 0, none⟩), .slice la v.m lc] 87)) 90 #[.int .i64 (fp : Int), .int .i64 fa, .int .i64 fw, .int .i64 lg, .slice ba nb bk]); simpa using this⟩
 clear ok h
 go_enter Tryz.func113, Tryz.ntmps113
 go_upto_region 1 with fail
 generalize ((w.alloc (.cells #[.pointer (some ⟨bt, 0, none⟩), .slice la v.m lc] 87)).alloc (.cells #[.int .i64 (fp : Int), .int .i64 fa, .int .i64 fw, .int .i64 lg, .slice ba nb bk] 90)) = V0 at S0 ⊢
 have x0 := S0.out.2.1.cel 0
 have x1 := S0.out.2.1.cel 1
 have y0 := S0.out.2.2.cel 0
 have y1 := S0.out.2.2.cel 1
 have y2 := S0.out.2.2.cel 2
 have y3 := S0.out.2.2.cel 3
 have y4 := S0.out.2.2.cel 4
 go_wp2_with fail
 refine wp_region_held_drew (S := (fun wx : World => wx.cell? ⟨w.heap.size, 0, none⟩ = some (.pointer (some ⟨bt, 0, none⟩)) ∧ wx.cell? ⟨w.heap.size, 1, none⟩ = some (.slice la v.m lc) ∧ wx.cell? ⟨w.heap.size + 1, 0, none⟩ = some (.int .i64 (fp : Int)) ∧ wx.cell? ⟨w.heap.size + 1, 1, none⟩ = some (.int .i64 fa) ∧ wx.cell? ⟨w.heap.size + 1, 2, none⟩ = some (.int .i64 fw) ∧ wx.cell? ⟨w.heap.size + 1, 3, none⟩ = some (.int .i64 lg) ∧ wx.cell? ⟨w.heap.size + 1, 4, none⟩ = some (.slice ba nb bk))) (by kernel_rfl) ?_ (fun hHeld => ?_)
 ·
  exact ⟨x0, x1, y0, y1, y2, y3, y4⟩
 have MD73 : Hid (Below w.heap.size w V0.drew ∧ Box V0.drew (w.heap.size) 87 #[.pointer (some ⟨bt, 0, none⟩), .slice la v.m lc] ∧ Box V0.drew (w.heap.size + 1) 90 #[.int .i64 (fp : Int), .int .i64 fa, .int .i64 fw, .int .i64 lg, .slice ba nb bk]) := ⟨S0.out.1.drew, S0.out.2.1.drew, S0.out.2.2.drew⟩
 clear x0 x1 y0 y1 y2 y3 y4 S0
 generalize V0.drew = VD at MD73 hHeld ⊢
 refine tk 0 ?_
 refine tk 1 ?_
 refine tk 2 ?_
 refine tk 3 ?_
 refine tk 6 ?_
 refine tk 7 ?_
 refine tk 8 ?_
 refine tk 9 ?_
 refine tk 11 ?_
 refine tk 12 ?_
 refine tk 13 ?_
 refine rl 4 fun K hK => ?_
 go_simp
 refine (step79 (fp : Int) fa fw _).mono ?_
 rintro e wh74 ⟨rfl, hb⟩
 have MA75 : Hid (Below w.heap.size w wh74 ∧ Box wh74 (w.heap.size) 87 #[.pointer (some ⟨bt, 0, none⟩), .slice la v.m lc] ∧ Box wh74 (w.heap.size + 1) 90 #[.int .i64 (fp : Int), .int .i64 fa, .int .i64 fw, .int .i64 lg, .slice ba nb bk]) := ⟨MD73.out.1.trans (hb.mono MD73.out.1.size), MD73.out.2.1.mono hb nr, MD73.out.2.2.mono hb nr⟩
 clear hb MD73
 go_wp2_with fail
 refine hK.out _ _ ?_ (fun hHeld => ?_)
 ·
  exact ⟨MA75.out.2.1.cell 0, MA75.out.2.1.cell 1, MA75.out.2.2.cell 0, MA75.out.2.2.cell 1, MA75.out.2.2.cell 2, MA75.out.2.2.cell 3, MA75.out.2.2.cell 4⟩
 clear hK K
 refine rl 5 fun K hK => ?_
 go_simp
 refine (long99 H.out.1 fp fw _ (H.out.2.mono MA75.out.1 nr) hfp).mono ?_
 rintro e wh76 ⟨rfl, hb⟩
 have MA77 : Hid (Below w.heap.size w wh76 ∧ Box wh76 (w.heap.size) 87 #[.pointer (some ⟨bt, 0, none⟩), .slice la v.m lc] ∧ Box wh76 (w.heap.size + 1) 90 #[.int .i64 (fp : Int), .int .i64 fa, .int .i64 fw, .int .i64 lg, .slice ba nb bk]) := ⟨MA75.out.1.trans (hb.mono MA75.out.1.size), MA75.out.2.1.mono hb nr, MA75.out.2.2.mono hb nr⟩
 clear hb MA75
 go_wp2_with fail
 refine hK.out _ _ ?_ (fun hHeld => ?_)
 ·
  exact ⟨MA77.out.2.1.cell 0, MA77.out.2.1.cell 1, MA77.out.2.2.cell 0, MA77.out.2.2.cell 1, MA77.out.2.2.cell 2, MA77.out.2.2.cell 3, MA77.out.2.2.cell 4⟩
 clear hK K
 refine rl 10 fun K hK => ?_
 go_simp
 refine (step79 (fp : Int) fa fw _).mono ?_
 rintro e wh78 ⟨rfl, hb⟩
 have MA79 : Hid (Below w.heap.size w wh78 ∧ Box wh78 (w.heap.size) 87 #[.pointer (some ⟨bt, 0, none⟩), .slice la v.m lc] ∧ Box wh78 (w.heap.size + 1) 90 #[.int .i64 (fp : Int), .int .i64 fa, .int .i64 fw, .int .i64 lg, .slice ba nb bk]) := ⟨MA77.out.1.trans (hb.mono MA77.out.1.size), MA77.out.2.1.mono hb nr, MA77.out.2.2.mono hb nr⟩
 clear hb MA77
 go_wp2_with fail
 refine hK.out _ _ ?_ (fun hHeld => ?_)
 ·
  exact ⟨MA79.out.2.1.cell 0, MA79.out.2.1.cell 1, MA79.out.2.2.cell 0, MA79.out.2.2.cell 1, MA79.out.2.2.cell 2, MA79.out.2.2.cell 3, MA79.out.2.2.cell 4⟩
 clear hK K
 refine rl 14 fun K hK => ?_
 go_simp
 refine (along98 H.out.1 fp fw fa _ (H.out.2.mono MA79.out.1 nr) hfp hfa).mono ?_
 rintro e wh80 ⟨he, hb⟩
 rw [HAL.out] at he
 subst he
 have MA81 : Hid (Below w.heap.size w wh80 ∧ Box wh80 (w.heap.size) 87 #[.pointer (some ⟨bt, 0, none⟩), .slice la v.m lc] ∧ Box wh80 (w.heap.size + 1) 90 #[.int .i64 (fp : Int), .int .i64 fa, .int .i64 fw, .int .i64 lg, .slice ba nb bk]) := ⟨MA79.out.1.trans (hb.mono MA79.out.1.size), MA79.out.2.1.mono hb nr, MA79.out.2.2.mono hb nr⟩
 clear hb MA79
 go_wp2_with fail
 refine hK.out _ _ ?_ (fun hHeld => ?_)
 ·
  exact ⟨MA81.out.2.1.cell 0, MA81.out.2.1.cell 1, MA81.out.2.2.cell 0, MA81.out.2.2.cell 1, MA81.out.2.2.cell 2, MA81.out.2.2.cell 3, MA81.out.2.2.cell 4⟩
 clear hK K
 refine tk 15 ?_
 refine tk 16 ?_
 refine wpAnyH_done (by kernel_rfl) ?_ _
 clear hHeld
 go_wp2_with fail
 go_ret
 exact ⟨by rw [← hwr]; rfl, MA81.out.1⟩
set_option maxRecDepth 100000 in
set_option maxHeartbeats 16000000 in
theorem train48c (y0 y1 y2 y3 : Int) (ya : Option Addr) (yn yc : Nat) (F : Nat → Nat → Int) (w : World) (hn : yn ≤ 1048576) (ho : CpAt w 2 ya yn yc (intF F)) :
  Calls Tryz.prog 48 #[.agg #[.int .i64 y0, .int .i64 y1, .int .i64 y2, .int .i64 y3, .slice ya yn yc]] w fun e w' => ∃ za zc, e = .returned (.agg #[.int .i64 y0, .int .i64 y1, .int .i64 y2, .int .i64 y3, .slice za yn zc]) ∧ VOwn w.heap.size 74 2 w' (.slice za yn zc) yn (intF F) ∧ Below w.heap.size w w' := by
 obtain ⟨i0, hi0, hz0, hs0, hb0⟩ := info_parts infoStepZ
 have H : Hid (CpAt w 2 ya yn yc (intF F)) := ho
 clear ho
 have S0 : Hid (Below w.heap.size w ((w.alloc (.cells #[.int .i64 y0, .int .i64 y1, .int .i64 y2, .int .i64 y3, .slice ya yn yc] 90)).alloc (.cells #[.int .i64 0, .int .i64 0, .int .i64 0, .int .i64 0, .slice none 0 0] 33)) ∧ Box ((w.alloc (.cells #[.int .i64 y0, .int .i64 y1, .int .i64 y2, .int .i64 y3, .slice ya yn yc] 90)).alloc (.cells #[.int .i64 0, .int .i64 0, .int .i64 0, .int .i64 0, .slice none 0 0] 33)) (w.heap.size) 90 #[.int .i64 y0, .int .i64 y1, .int .i64 y2, .int .i64 y3, .slice ya yn yc] ∧ Box ((w.alloc (.cells #[.int .i64 y0, .int .i64 y1, .int .i64 y2, .int .i64 y3, .slice ya yn yc] 90)).alloc (.cells #[.int .i64 0, .int .i64 0, .int .i64 0, .int .i64 0, .slice none 0 0] 33)) (w.heap.size + 1) 33 #[.int .i64 0, .int .i64 0, .int .i64 0, .int .i64 0, .slice none 0 0]) := ⟨bel2 _ _ _, (Box.new _ _ _).alloc _, by have := Box.new (w.alloc (.cells #[.int .i64 y0, .int .i64 y1, .int .i64 y2, .int .i64 y3, .slice ya yn yc] 90)) 33 #[.int .i64 0, .int .i64 0, .int .i64 0, .int .i64 0, .slice none 0 0]; simpa using this⟩
 go_enter Tryz.func48, Tryz.ntmps48
 go_upto_region 1 with fail
 generalize ((w.alloc (.cells #[.int .i64 y0, .int .i64 y1, .int .i64 y2, .int .i64 y3, .slice ya yn yc] 90)).alloc (.cells #[.int .i64 0, .int .i64 0, .int .i64 0, .int .i64 0, .slice none 0 0] 33)) = V0 at S0 ⊢
 have MD : Hid (Below w.heap.size w V0.drew ∧ Box V0.drew (w.heap.size) 90 #[.int .i64 y0, .int .i64 y1, .int .i64 y2, .int .i64 y3, .slice ya yn yc] ∧ Box V0.drew (w.heap.size + 1) 33 #[.int .i64 0, .int .i64 0, .int .i64 0, .int .i64 0, .slice none 0 0]) := ⟨S0.out.1.drew, S0.out.2.1.drew, S0.out.2.2.drew⟩
 have a0 := S0.out.2.1.cel 0
 have a1 := S0.out.2.1.cel 1
 have a2 := S0.out.2.1.cel 2
 have a3 := S0.out.2.1.cel 3
 have a4 := S0.out.2.1.cel 4
 clear S0
 go_wp2_with fail
 refine wp_region_held_drew (S := (fun wx : World => wx.cell? ⟨w.heap.size, 0, none⟩ = some (.int .i64 y0) ∧ wx.cell? ⟨w.heap.size, 1, none⟩ = some (.int .i64 y1) ∧ wx.cell? ⟨w.heap.size, 2, none⟩ = some (.int .i64 y2) ∧ wx.cell? ⟨w.heap.size, 3, none⟩ = some (.int .i64 y3) ∧ wx.cell? ⟨w.heap.size, 4, none⟩ = some (.slice ya yn yc))) (by kernel_rfl) ?_ (fun hHeld => ?_)
 ·
  exact ⟨a0, a1, a2, a3, a4⟩
 generalize V0.drew = VD at MD hHeld ⊢
 clear a0 a1 a2 a3 a4
 refine tk 0 ?_
 refine tk 1 ?_
 refine tk 2 ?_
 refine tk 3 ?_
 refine tk 4 ?_
 refine tk 5 ?_
 refine rl 6 fun K hK => ?_
 refine step_copy VD rfl _ _ 31 rfl 74 i0 _ 2 16 Tryz.underlying31 hi0 hz0 hs0 hb0 rfl (by decide) rfl ya yn yc (intF F) rfl (fun _ _ => rfl) (H.out.mono MD.out.1) (by simp only [maxLen]; omega) (by omega) ?_
 intro za zc w2 ho2 hg2
 have M2 : Hid ((Below w.heap.size w w2 ∧ Box w2 (w.heap.size) 90 #[.int .i64 y0, .int .i64 y1, .int .i64 y2, .int .i64 y3, .slice ya yn yc] ∧ Box w2 (w.heap.size + 1) 33 #[.int .i64 0, .int .i64 0, .int .i64 0, .int .i64 0, .slice none 0 0]) ∧ VOwn w.heap.size 74 2 w2 (.slice za yn zc) yn (intF F)) := ⟨⟨below_grownN MD.out.1 hg2 MD.out.1.size, MD.out.2.1.grownN hg2, MD.out.2.2.grownN hg2⟩, ho2.keep MD.out.1.size (fun _ _ => rfl)⟩
 clear ho2 hg2 MD hHeld
 simp only [Act.put, List.setIfInBounds_toArray, List.set_cons_zero, List.set_cons_succ]
 refine hK.out _ _ ?_ (fun hHeld => ?_)
 ·
  exact ⟨M2.out.1.2.1.cell 0, M2.out.1.2.1.cell 1, M2.out.1.2.1.cell 2, M2.out.1.2.1.cell 3, M2.out.1.2.1.cell 4⟩
 clear hK K
 refine tk 7 ?_
 have z0 := M2.out.1.2.2.cel 0
 have z1 := M2.out.1.2.2.cel 1
 have z2 := M2.out.1.2.2.cel 2
 have z3 := M2.out.1.2.2.cel 3
 have z4 := M2.out.1.2.2.cel 4
 have q0 := M2.out.1.2.2.free 0
 have q1 := M2.out.1.2.2.free 1
 have q2 := M2.out.1.2.2.free 2
 have q3 := M2.out.1.2.2.free 3
 have q4 := M2.out.1.2.2.free 4
 have e1 : w.heap.size ≠ w.heap.size + 1 := by omega
 have M3 : Hid ((Below w.heap.size w (((((w2.setCell ⟨w.heap.size + 1, 0, none⟩ (.int .i64 y0)).setCell ⟨w.heap.size + 1, 1, none⟩ (.int .i64 y1)).setCell ⟨w.heap.size + 1, 2, none⟩ (.int .i64 y2)).setCell ⟨w.heap.size + 1, 3, none⟩ (.int .i64 y3)).setCell ⟨w.heap.size + 1, 4, none⟩ (.slice za yn zc)) ∧ Box (((((w2.setCell ⟨w.heap.size + 1, 0, none⟩ (.int .i64 y0)).setCell ⟨w.heap.size + 1, 1, none⟩ (.int .i64 y1)).setCell ⟨w.heap.size + 1, 2, none⟩ (.int .i64 y2)).setCell ⟨w.heap.size + 1, 3, none⟩ (.int .i64 y3)).setCell ⟨w.heap.size + 1, 4, none⟩ (.slice za yn zc)) w.heap.size 90 #[.int .i64 y0, .int .i64 y1, .int .i64 y2, .int .i64 y3, .slice ya yn yc] ∧ Box (((((w2.setCell ⟨w.heap.size + 1, 0, none⟩ (.int .i64 y0)).setCell ⟨w.heap.size + 1, 1, none⟩ (.int .i64 y1)).setCell ⟨w.heap.size + 1, 2, none⟩ (.int .i64 y2)).setCell ⟨w.heap.size + 1, 3, none⟩ (.int .i64 y3)).setCell ⟨w.heap.size + 1, 4, none⟩ (.slice za yn zc)) (w.heap.size + 1) 33 #[.int .i64 y0, .int .i64 y1, .int .i64 y2, .int .i64 y3, .slice za yn zc]) ∧ VOwn w.heap.size 74 2 (((((w2.setCell ⟨w.heap.size + 1, 0, none⟩ (.int .i64 y0)).setCell ⟨w.heap.size + 1, 1, none⟩ (.int .i64 y1)).setCell ⟨w.heap.size + 1, 2, none⟩ (.int .i64 y2)).setCell ⟨w.heap.size + 1, 3, none⟩ (.int .i64 y3)).setCell ⟨w.heap.size + 1, 4, none⟩ (.slice za yn zc)) (.slice za yn zc) yn (intF F)) := ⟨⟨(((((M2.out.1.1.setCell (Nat.le_add_right _ 1) _).setCell (Nat.le_add_right _ 1) _).setCell (Nat.le_add_right _ 1) _).setCell (Nat.le_add_right _ 1) _).setCell (Nat.le_add_right _ 1) _), (((((M2.out.1.2.1.other e1 _).other e1 _).other e1 _).other e1 _).other e1 _), by
  have h9 := (((((M2.out.1.2.2.set 0 (.int .i64 y0)).set 1 (.int .i64 y1)).set 2 (.int .i64 y2)).set 3 (.int .i64 y3)).set 4 (.slice za yn zc))
  exact h9⟩, (((((M2.out.2.set M2.out.1.2.2 (by decide) 0 _).set (M2.out.1.2.2.set 0 (.int .i64 y0)) (by decide) 1 _).set ((M2.out.1.2.2.set 0 (.int .i64 y0)).set 1 (.int .i64 y1)) (by decide) 2 _).set (((M2.out.1.2.2.set 0 (.int .i64 y0)).set 1 (.int .i64 y1)).set 2 (.int .i64 y2)) (by decide) 3 _).set ((((M2.out.1.2.2.set 0 (.int .i64 y0)).set 1 (.int .i64 y1)).set 2 (.int .i64 y2)).set 3 (.int .i64 y3)) (by decide) 4 _)⟩
 clear M2
 refine rl 8 fun K hK => ?_
 go_simp
 refine hK.out _ _ ?_ (fun hHeld => ?_)
 ·
  exact ⟨M3.out.1.2.1.cell 0, M3.out.1.2.1.cell 1, M3.out.1.2.1.cell 2, M3.out.1.2.1.cell 3, M3.out.1.2.1.cell 4⟩
 clear hK K hHeld z0 z1 z2 z3 z4 q0 q1 q2 q3 q4
 refine wpAnyH_done (by kernel_rfl) ?_ _
 generalize (((((w2.setCell ⟨w.heap.size + 1, 0, none⟩ (.int .i64 y0)).setCell ⟨w.heap.size + 1, 1, none⟩ (.int .i64 y1)).setCell ⟨w.heap.size + 1, 2, none⟩ (.int .i64 y2)).setCell ⟨w.heap.size + 1, 3, none⟩ (.int .i64 y3)).setCell ⟨w.heap.size + 1, 4, none⟩ (.slice za yn zc)) = W9 at M3 ⊢
 have z0 := M3.out.1.2.2.cel 0
 have z1 := M3.out.1.2.2.cel 1
 have z2 := M3.out.1.2.2.cel 2
 have z3 := M3.out.1.2.2.cel 3
 have z4 := M3.out.1.2.2.cel 4
 go_wp2_with fail
 exact bodyPost_ret (v := .agg #[.int .i64 y0, .int .i64 y1, .int .i64 y2, .int .i64 y3, .slice za yn zc]) (by simp [results, Tryz.results48, go_sem, z0, z1, z2, z3, z4]) rfl ⟨za, zc, rfl, M3.out.2, M3.out.1.1⟩
end Go.Proofs.YtjhmaofjmalglaaGreat
