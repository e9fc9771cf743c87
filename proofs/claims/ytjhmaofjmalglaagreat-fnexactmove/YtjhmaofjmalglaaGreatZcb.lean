import Derived.Test.YtjhmaofjmalglaaGreatZca
namespace Go.Proofs.YtjhmaofjmalglaaGreat
open Go.RowKit Go.Lib
set_option maxRecDepth 100000 in
set_option maxHeartbeats 16000000 in
theorem markMoved28 (x : MvX) (a1 a2 : Option Addr) (c1 c2 k b g : Nat) (w : World) (hn : x.n ≤ 1048576) (hm : x.no ≤ 1048576) (hk : k ≤ 1000000) (ha1 : 0 < x.n → a1 = some ⟨b, 0, none⟩) (hl1 : 0 < x.n → b < w.heap.size) (hw1 : ∀ o, 0 ≤ o → o < 0 + x.n * 2 → (∃ v, w.cell? ⟨b, o, none⟩ = some v) ∧ w.frozen? ⟨b, o, none⟩ = false) (ha2 : 0 < x.no → a2 = some ⟨g, 0, none⟩) (hl2 : 0 < x.no → g < w.heap.size) (hw2 : ∀ o, 0 ≤ o → o < 0 + x.no * 3 → (∃ v, w.cell? ⟨g, o, none⟩ = some v) ∧ w.frozen? ⟨g, o, none⟩ = false) (hbg : b ≠ g) (hbs : b ≠ w.heap.size) :
  Calls Tryz.prog 28 #[.agg #[.int .i64 x.c, .int .i64 x.far, .int .i64 x.j, .int .i64 x.p, .int .i64 x.a, .int .i64 x.w, .int .i64 x.l, .slice a1 x.n c1, .slice a2 x.no c2], .int .i64 k] w fun e w' => e = .returned (.int .i64 ((k + x.n * 2 + x.no * 3 : Nat) : Int)) ∧ Fr (fun q => q = b ∨ q = g) w w' ∧ (∀ i, i < x.n → ∀ j, j < 2 → w'.cell? ⟨b, 0 + i * 2 + j, none⟩ = some (.int .i64 ((k + i * 2 + j : Nat) : Int))) ∧ (∀ i, i < x.no → ∀ j, j < 3 → w'.cell? ⟨g, 0 + i * 3 + j, none⟩ = some (.int .i64 ((k + x.n * 2 + i * 3 + j : Nat) : Int))) := by
 have hb := bel1 w (.cells #[.int .i64 x.c, .int .i64 x.far, .int .i64 x.j, .int .i64 x.p, .int .i64 x.a, .int .i64 x.w, .int .i64 x.l, .slice a1 x.n c1, .slice a2 x.no c2] 61)
 have HBX : Hid (Box (w.alloc (.cells #[.int .i64 x.c, .int .i64 x.far, .int .i64 x.j, .int .i64 x.p, .int .i64 x.a, .int .i64 x.w, .int .i64 x.l, .slice a1 x.n c1, .slice a2 x.no c2] 61)) w.heap.size 61 #[.int .i64 x.c, .int .i64 x.far, .int .i64 x.j, .int .i64 x.p, .int .i64 x.a, .int .i64 x.w, .int .i64 x.l, .slice a1 x.n c1, .slice a2 x.no c2]) := Box.new _ _ _
 have HW1 : Hid (∀ o, 0 ≤ o → o < 0 + x.n * 2 → (∃ v, (w.alloc (.cells #[.int .i64 x.c, .int .i64 x.far, .int .i64 x.j, .int .i64 x.p, .int .i64 x.a, .int .i64 x.w, .int .i64 x.l, .slice a1 x.n c1, .slice a2 x.no c2] 61)).cell? ⟨b, o, none⟩ = some v) ∧ (w.alloc (.cells #[.int .i64 x.c, .int .i64 x.far, .int .i64 x.j, .int .i64 x.p, .int .i64 x.a, .int .i64 x.w, .int .i64 x.l, .slice a1 x.n c1, .slice a2 x.no c2] 61)).frozen? ⟨b, o, none⟩ = false) := fun o h1 h2 => by
  have hl := hl1 (by omega)
  obtain ⟨⟨v, hv⟩, hf⟩ := hw1 o h1 h2
  exact ⟨⟨v, cell_keep hb hl hv⟩, (hb.frozen (p := ⟨b, o, none⟩) hl).trans hf⟩
 have HW2 : Hid (∀ o, 0 ≤ o → o < 0 + x.no * 3 → (∃ v, (w.alloc (.cells #[.int .i64 x.c, .int .i64 x.far, .int .i64 x.j, .int .i64 x.p, .int .i64 x.a, .int .i64 x.w, .int .i64 x.l, .slice a1 x.n c1, .slice a2 x.no c2] 61)).cell? ⟨g, o, none⟩ = some v) ∧ (w.alloc (.cells #[.int .i64 x.c, .int .i64 x.far, .int .i64 x.j, .int .i64 x.p, .int .i64 x.a, .int .i64 x.w, .int .i64 x.l, .slice a1 x.n c1, .slice a2 x.no c2] 61)).frozen? ⟨g, o, none⟩ = false) := fun o h1 h2 => by
  have hl := hl2 (by omega)
  obtain ⟨⟨v, hv⟩, hf⟩ := hw2 o h1 h2
  exact ⟨⟨v, cell_keep hb hl hv⟩, (hb.frozen (p := ⟨g, o, none⟩) hl).trans hf⟩
 have HB : Hid (Fr (fun q => q = b ∨ q = g) w (w.alloc (.cells #[.int .i64 x.c, .int .i64 x.far, .int .i64 x.j, .int .i64 x.p, .int .i64 x.a, .int .i64 x.w, .int .i64 x.l, .slice a1 x.n c1, .slice a2 x.no c2] 61))) := Fr.of_below hb
 have HL : Hid ((0 < x.n → b < (w.alloc (.cells #[.int .i64 x.c, .int .i64 x.far, .int .i64 x.j, .int .i64 x.p, .int .i64 x.a, .int .i64 x.w, .int .i64 x.l, .slice a1 x.n c1, .slice a2 x.no c2] 61)).heap.size) ∧ (0 < x.no → g < (w.alloc (.cells #[.int .i64 x.c, .int .i64 x.far, .int .i64 x.j, .int .i64 x.p, .int .i64 x.a, .int .i64 x.w, .int .i64 x.l, .slice a1 x.n c1, .slice a2 x.no c2] 61)).heap.size) ∧ (0 < x.n → b < w.heap.size)) := ⟨fun h => Nat.lt_of_lt_of_le (hl1 h) hb.size, fun h => Nat.lt_of_lt_of_le (hl2 h) hb.size, hl1⟩
 have HBG : Hid (b ≠ g ∧ b ≠ w.heap.size) := ⟨hbg, hbs⟩
 obtain ⟨k1, hk1⟩ : ∃ k1, k + x.n * 2 = k1 := ⟨_, rfl⟩
 obtain ⟨k2, hk2⟩ : ∃ k2, k1 + x.no * 3 = k2 := ⟨_, rfl⟩
 have hk1b : k1 ≤ 1152921504606846976 := by omega
 have HK1 : Hid (k + x.n * 2 = k1) := hk1
 have HK2 : Hid (k1 + x.no * 3 = k2) := hk2
 clear hw1 hw2 hb hl1 hl2 hbg hbs hk1 hk2
 go_enter Tryz.func28, Tryz.ntmps28
 go_upto_region 1 with fail
 generalize w.alloc (.cells #[.int .i64 x.c, .int .i64 x.far, .int .i64 x.j, .int .i64 x.p, .int .i64 x.a, .int .i64 x.w, .int .i64 x.l, .slice a1 x.n c1, .slice a2 x.no c2] 61) = V0 at *
 have t0 := HBX.out.cel 0
 have t1 := HBX.out.cel 1
 have t2 := HBX.out.cel 2
 have t3 := HBX.out.cel 3
 have t4 := HBX.out.cel 4
 have t5 := HBX.out.cel 5
 have t6 := HBX.out.cel 6
 have t7 := HBX.out.cel 7
 have t8 := HBX.out.cel 8
 go_wp2_with fail
 clear t0 t1 t2 t3 t4 t5 t6 t7 t8
 refine (markTrain15 x.p x.a x.w x.l a1 x.n c1 k b 0 V0 hn (by omega) ha1 HL.out.1 HW1.out).mono ?_
 rintro e w1 ⟨he, ⟨o, h1⟩, h2⟩
 rw [HK1.out] at he
 subst he
 have HF1 : Hid (Fr (fun q => q = b) V0 w1) := within_frG h1
 have HM1 : Hid (∀ i, i < x.n → ∀ j, j < 2 → w1.cell? ⟨b, 0 + i * 2 + j, none⟩ = some (.int .i64 ((k + i * 2 + j : Nat) : Int))) := h2
 have HBX2 : Hid (Box w1 w.heap.size 61 #[.int .i64 x.c, .int .i64 x.far, .int .i64 x.j, .int .i64 x.p, .int .i64 x.a, .int .i64 x.w, .int .i64 x.l, .slice a1 x.n c1, .slice a2 x.no c2]) := HBX.out.fr HF1.out (fun e => HBG.out.2 e.symm)
 have HW3 : Hid (∀ o, 0 ≤ o → o < 0 + x.no * 3 → (∃ v, w1.cell? ⟨g, o, none⟩ = some v) ∧ w1.frozen? ⟨g, o, none⟩ = false) := fun o h1 h2 => by
  have hl := HL.out.2.1 (by omega)
  obtain ⟨⟨v, hv⟩, hf⟩ := HW2.out o h1 h2
  have hbk := HF1.out.block g hl (fun e => HBG.out.1 e.symm)
  exact ⟨⟨v, (World.cell?_of_block (a := ⟨g, o, none⟩) hbk).trans hv⟩, (World.frozen?_of_block (a := ⟨g, o, none⟩) hbk).trans hf⟩
 clear h1 h2 HW1 HW2
 have t8 := HBX2.out.cel 8
 go_wp2_with fail
 clear t8
 refine (markPartS55 a2 x.no c2 k1 g 0 w1 hm hk1b ha2 HW3.out).mono ?_
 rintro e w2 ⟨he, h1, h2⟩
 rw [HK2.out] at he
 subst he
 have HEND : Hid (Fr (fun q => q = b ∨ q = g) w w2 ∧ (∀ i, i < x.n → ∀ j, j < 2 → w2.cell? ⟨b, 0 + i * 2 + j, none⟩ = some (.int .i64 ((k + i * 2 + j : Nat) : Int))) ∧ (∀ i, i < x.no → ∀ j, j < 3 → w2.cell? ⟨g, 0 + i * 3 + j, none⟩ = some (.int .i64 ((k1 + i * 3 + j : Nat) : Int)))) := by
  have hf := within_fr0 h1
  refine ⟨(HB.out.trans (HF1.out.mono fun _ _ h => Or.inl h)).trans (hf.mono fun _ _ h => Or.inr h), fun i hi j hj => ?_, h2⟩
  have hl : b < w1.heap.size := Nat.lt_of_lt_of_le (HL.out.1 (by omega)) HF1.out.size
  exact (World.cell?_of_block (a := ⟨b, 0 + i * 2 + j, none⟩) (hf.block b hl HBG.out.1)).trans (HM1.out i hi j hj)
 clear h1 h2
 go_wp2_with fail
 go_ret
 refine ⟨?_, HEND.out.1, HEND.out.2.1, ?_⟩
 ·
  rw [HK1.out, HK2.out]; rfl
 ·
  rw [HK1.out]; exact HEND.out.2.2
set_option maxRecDepth 100000 in
set_option maxHeartbeats 16000000 in
theorem heldMoved29 (x : MvX) (a1 a2 : Option Addr) (c1 c2 k b g : Nat) (w : World) (hn : x.n ≤ 1048576) (hm : x.no ≤ 1048576) (hk : k ≤ 1000000) (ha1 : 0 < x.n → a1 = some ⟨b, 0, none⟩) (hl1 : 0 < x.n → b < w.heap.size) (hm1 : ∀ i, i < x.n → ∀ j, j < 2 → w.cell? ⟨b, 0 + i * 2 + j, none⟩ = some (.int .i64 ((k + i * 2 + j : Nat) : Int))) (ha2 : 0 < x.no → a2 = some ⟨g, 0, none⟩) (hl2 : 0 < x.no → g < w.heap.size) (hm2 : ∀ i, i < x.no → ∀ j, j < 3 → w.cell? ⟨g, 0 + i * 3 + j, none⟩ = some (.int .i64 ((k + x.n * 2 + i * 3 + j : Nat) : Int))) :
  Calls Tryz.prog 29 #[.agg #[.int .i64 x.c, .int .i64 x.far, .int .i64 x.j, .int .i64 x.p, .int .i64 x.a, .int .i64 x.w, .int .i64 x.l, .slice a1 x.n c1, .slice a2 x.no c2], .int .i64 k] w fun e w' => e = .returned (.int .i64 ((k + x.n * 2 + x.no * 3 : Nat) : Int)) ∧ Below w.heap.size w w' := by
 have hb := bel1 w (.cells #[.int .i64 x.c, .int .i64 x.far, .int .i64 x.j, .int .i64 x.p, .int .i64 x.a, .int .i64 x.w, .int .i64 x.l, .slice a1 x.n c1, .slice a2 x.no c2] 61)
 have HBX : Hid (Box (w.alloc (.cells #[.int .i64 x.c, .int .i64 x.far, .int .i64 x.j, .int .i64 x.p, .int .i64 x.a, .int .i64 x.w, .int .i64 x.l, .slice a1 x.n c1, .slice a2 x.no c2] 61)) w.heap.size 61 #[.int .i64 x.c, .int .i64 x.far, .int .i64 x.j, .int .i64 x.p, .int .i64 x.a, .int .i64 x.w, .int .i64 x.l, .slice a1 x.n c1, .slice a2 x.no c2]) := Box.new _ _ _
 have HM1 : Hid (∀ i, i < x.n → ∀ j, j < 2 → (w.alloc (.cells #[.int .i64 x.c, .int .i64 x.far, .int .i64 x.j, .int .i64 x.p, .int .i64 x.a, .int .i64 x.w, .int .i64 x.l, .slice a1 x.n c1, .slice a2 x.no c2] 61)).cell? ⟨b, 0 + i * 2 + j, none⟩ = some (.int .i64 ((k + i * 2 + j : Nat) : Int))) := fun i hi j hj => cell_keep hb (hl1 (by omega)) (hm1 i hi j hj)
 obtain ⟨k1, hk1⟩ : ∃ k1, k + x.n * 2 = k1 := ⟨_, rfl⟩
 obtain ⟨k2, hk2⟩ : ∃ k2, k1 + x.no * 3 = k2 := ⟨_, rfl⟩
 have hk1b : k1 ≤ 1152921504606846976 := by omega
 have HK1 : Hid (k + x.n * 2 = k1) := hk1
 have HK2 : Hid (k1 + x.no * 3 = k2) := hk2
 have HM2 : Hid (∀ i, i < x.no → ∀ j, j < 3 → (w.alloc (.cells #[.int .i64 x.c, .int .i64 x.far, .int .i64 x.j, .int .i64 x.p, .int .i64 x.a, .int .i64 x.w, .int .i64 x.l, .slice a1 x.n c1, .slice a2 x.no c2] 61)).cell? ⟨g, 0 + i * 3 + j, none⟩ = some (.int .i64 ((k1 + i * 3 + j : Nat) : Int))) := fun i hi j hj => by rw [← hk1]; exact cell_keep hb (hl2 (by omega)) (hm2 i hi j hj)
 have HB : Hid (Below w.heap.size w (w.alloc (.cells #[.int .i64 x.c, .int .i64 x.far, .int .i64 x.j, .int .i64 x.p, .int .i64 x.a, .int .i64 x.w, .int .i64 x.l, .slice a1 x.n c1, .slice a2 x.no c2] 61))) := hb
 have HL : Hid ((0 < x.n → b < (w.alloc (.cells #[.int .i64 x.c, .int .i64 x.far, .int .i64 x.j, .int .i64 x.p, .int .i64 x.a, .int .i64 x.w, .int .i64 x.l, .slice a1 x.n c1, .slice a2 x.no c2] 61)).heap.size) ∧ (0 < x.no → g < (w.alloc (.cells #[.int .i64 x.c, .int .i64 x.far, .int .i64 x.j, .int .i64 x.p, .int .i64 x.a, .int .i64 x.w, .int .i64 x.l, .slice a1 x.n c1, .slice a2 x.no c2] 61)).heap.size)) := ⟨fun h => Nat.lt_of_lt_of_le (hl1 h) hb.size, fun h => Nat.lt_of_lt_of_le (hl2 h) hb.size⟩
 have hd1 : decide ((k1 : Int) < 0) = false := by simp
 have hd2 : decide ((k2 : Int) < 0) = false := by simp
 clear hm1 hm2 hb hl1 hl2 hk1 hk2
 go_enter Tryz.func29, Tryz.ntmps29
 go_upto_region 1 with fail
 generalize w.alloc (.cells #[.int .i64 x.c, .int .i64 x.far, .int .i64 x.j, .int .i64 x.p, .int .i64 x.a, .int .i64 x.w, .int .i64 x.l, .slice a1 x.n c1, .slice a2 x.no c2] 61) = V0 at *
 have t0 := HBX.out.cel 0
 have t1 := HBX.out.cel 1
 have t2 := HBX.out.cel 2
 have t3 := HBX.out.cel 3
 have t4 := HBX.out.cel 4
 have t5 := HBX.out.cel 5
 have t6 := HBX.out.cel 6
 have t7 := HBX.out.cel 7
 have t8 := HBX.out.cel 8
 go_wp2_with fail
 clear t0 t1 t2 t3 t4 t5 t6 t7 t8
 refine (heldTrain20 x.p x.a x.w x.l a1 x.n c1 k b 0 V0 hn (by omega) ha1 HL.out.1 HM1.out).mono ?_
 rintro e w1 ⟨he, h1⟩
 rw [HK1.out] at he
 subst he
 have HBX2 : Hid (Box w1 w.heap.size 61 #[.int .i64 x.c, .int .i64 x.far, .int .i64 x.j, .int .i64 x.p, .int .i64 x.a, .int .i64 x.w, .int .i64 x.l, .slice a1 x.n c1, .slice a2 x.no c2]) := HBX.out.mono h1 nr
 have HM3 : Hid (∀ i, i < x.no → ∀ j, j < 3 → w1.cell? ⟨g, 0 + i * 3 + j, none⟩ = some (.int .i64 ((k1 + i * 3 + j : Nat) : Int))) := fun i hi j hj => cell_keep h1 (HL.out.2 (by omega)) (HM2.out i hi j hj)
 have HE : Hid (Below w.heap.size w w1) := HB.out.trans (h1.mono HB.out.size)
 clear h1 HM1 HM2
 have t8 := HBX2.out.cel 8
 go_wp2_with fail
 clear t8
 refine (heldPartS60 a2 x.no c2 k1 g 0 w1 hm hk1b ha2 HM3.out).mono ?_
 rintro e w2 ⟨he, hw⟩
 rw [HK2.out] at he
 subst he
 have HE2 : Hid (Below w.heap.size w w2) := by rw [hw]; exact HE.out
 clear hw
 go_wp2_with fail
 go_ret
 exact ⟨by rw [HK1.out, HK2.out]; rfl, HE2.out⟩
end Go.Proofs.YtjhmaofjmalglaaGreat
