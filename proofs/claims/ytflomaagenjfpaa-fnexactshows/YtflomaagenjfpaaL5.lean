import Derived.Test.YtflomaagenjfpaaSw
import Derived.Test.YtflomaagenjfpaaIw
import Derived.Test.YtflomaagenjfpaaTr
import Derived.Test.YtflomaagenjfpaaEq
import Derived.Test.YtflomaagenjfpaaSz
import Derived.Test.YtflomaagenjfpaaMr
import Derived.Deep.RegionHeld3
namespace Go.Proofs.Ytflomaagenjfpaa
open Go.RowKit


set_option maxRecDepth 100000 in
set_option maxHeartbeats 16000000 in
theorem law5 (r : Rw) (xa fa oa ka : Option Addr) (xc fc oc kc : Nat) (w : World) (hf : r.fits) (hP : RwIn 0 w r xa fa oa ka) :
    Calls Try.prog 5 #[.agg #[.slice xa r.nn xc, .slice fa r.nf fc, .slice oa r.no oc, .slice ka r.nk kc]] w fun e w' => e = .returned (.bool true) ∧ Below w.heap.size w w' := by
  have HP : Hid (RwIn 0 w r xa fa oa ka) := hP
  clear hP
  go_enter Try.func5, Try.ntmps5
  go_wp2_with fail
  have B0 := bel1 w (.cells #[.slice xa r.nn xc, .slice fa r.nf fc, .slice oa r.no oc, .slice ka r.nk kc] 26)
  have A0 := Box.new w 26 #[.slice xa r.nn xc, .slice fa r.nf fc, .slice oa r.no oc, .slice ka r.nk kc]
  refine (szRow r xa fa oa ka xc fc oc kc 1048576 _ hf (by omega) (by omega) (HP.out.mono (Nat.le_refl _) B0 (Nat.le_refl _))).mono ?_
  rintro e w1 ⟨l, rfl, hr1, hr2, hb1⟩
  have S1 : Hid (Below w.heap.size w w1 ∧ Box w1 w.heap.size 26 #[.slice xa r.nn xc, .slice fa r.nf fc, .slice oa r.no oc, .slice ka r.nk kc]) := ⟨B0.trans (hb1.mono B0.size), A0.mono hb1 (Nat.le_refl _)⟩
  clear hb1 B0 A0
  by_cases hneg : l < 0
  · clear hr2
    go_wp2_with fail
    go_ret
    exact ⟨rfl, S1.out.1⟩
  have HS : Hid r.small := hr2 (by omega)
  clear hr2 hf
  obtain ⟨n, F, hn, H11, H12⟩ : ∃ (n : Nat) (F : Nat → Int), n ≤ 1048576 ∧ Hid (∀ (W : World) (xa fa oa ka : Option Addr) (xc fc oc kc : Nat), RwIn 0 W r xa fa oa ka → Calls Try.prog 17 #[.agg #[.slice xa r.nn xc, .slice fa r.nf fc, .slice oa r.no oc, .slice ka r.nk kc]] W fun e w' => AnsR W n F e w') ∧ Hid (∀ (W : World) (xa fa oa ka : Option Addr) (xc fc oc kc : Nat), RwIn 0 W r xa fa oa ka → Calls Try.prog 18 #[.agg #[.slice xa r.nn xc, .slice fa r.nf fc, .slice oa r.no oc, .slice ka r.nk kc]] W fun e w' => AnsR W n F e w') :=
    ⟨ansN r, leastS r, (by unfold ansN; have := HS.out.1; split <;> omega), fun W xa fa oa ka xc fc oc kc h => shows17 r xa fa oa ka xc fc oc kc W HS.out h, fun W xa fa oa ka xc fc oc kc h => shows18 r xa fa oa ka xc fc oc kc W HS.out h⟩
  have a0 : w1.cell? ⟨w.heap.size, 0, none⟩ = some (.slice xa r.nn xc) := S1.out.2.cell 0
  have a1 : w1.cell? ⟨w.heap.size, 1, none⟩ = some (.slice fa r.nf fc) := S1.out.2.cell 1
  have a2 : w1.cell? ⟨w.heap.size, 2, none⟩ = some (.slice oa r.no oc) := S1.out.2.cell 2
  have a3 : w1.cell? ⟨w.heap.size, 3, none⟩ = some (.slice ka r.nk kc) := S1.out.2.cell 3
  go_wp2_with fail
  clear a0 a1 a2 a3
  refine (toRow r xa fa oa ka xc fc oc kc _ HS.out (HP.out.mono (Nat.le_refl _) S1.out.1 (Nat.le_refl _))).mono ?_
  rintro e w2 ⟨xb, fb, ob, kb, rr, rfl, ho2, hb2⟩
  have S2 : Hid (Below w.heap.size w w2 ∧ Box w2 w.heap.size 26 #[.slice xa r.nn xc, .slice fa r.nf fc, .slice oa r.no oc, .slice ka r.nk kc]) := ⟨S1.out.1.trans (hb2.mono S1.out.1.size), S1.out.2.mono hb2 (Nat.le_refl _)⟩
  have HO2 : Hid (RwIn 0 w2 r (some ⟨xb, 0, none⟩) (some ⟨fb, 0, none⟩) (some ⟨ob, 0, none⟩) (some ⟨kb, 0, none⟩)) := ho2.in (Nat.zero_le _)
  clear ho2 hb2 S1
  go_wp2_with fail
  refine (H11.out _ _ _ _ _ _ _ _ _ HO2.out).mono ?_
  rintro e w3 ⟨v0, o0, rfl, hq0, hl0, hb3⟩
  obtain ⟨a0, c0, rfl⟩ := hq0.val
  obtain ⟨C, hC⟩ : ∃ C, C = w3.heap.size := ⟨_, rfl⟩
  have S3 : Hid (Below w.heap.size w w3 ∧ Box w3 w.heap.size 26 #[.slice xa r.nn xc, .slice fa r.nf fc, .slice oa r.no oc, .slice ka r.nk kc] ∧ QAt w3 (.slice a0 n c0) n F o0 ∧ (∀ g, o0 = some g → w.heap.size < g ∧ g < C) ∧ w.heap.size < C) := ⟨S2.out.1.trans (hb3.mono S2.out.1.size), S2.out.2.mono hb3 (Nat.le_refl _), hq0, fun g e => ⟨by have := hl0 g e; have := S2.out.2.lt; omega, by rw [hC]; rw [e] at hq0; exact hq0.lt⟩, by rw [hC]; have := S2.out.2.lt; have := hb3.size; omega⟩
  clear hq0 hl0 hb3 S2 HO2 H11
  have y0 : w3.cell? ⟨w.heap.size, 0, none⟩ = some (.slice xa r.nn xc) := S3.out.2.1.cell 0
  have y1 : w3.cell? ⟨w.heap.size, 1, none⟩ = some (.slice fa r.nf fc) := S3.out.2.1.cell 1
  have y2 : w3.cell? ⟨w.heap.size, 2, none⟩ = some (.slice oa r.no oc) := S3.out.2.1.cell 2
  have y3 : w3.cell? ⟨w.heap.size, 3, none⟩ = some (.slice ka r.nk kc) := S3.out.2.1.cell 3
  go_wp2_with fail
  clear y0 y1 y2 y3
  refine (toRow r xa fa oa ka xc fc oc kc _ HS.out (HP.out.mono (Nat.le_refl _) S3.out.1 (Nat.le_refl _))).mono ?_
  rintro e w5 ⟨xb5, fb5, ob5, kb5, rr5, rfl, ho5, hb5⟩
  obtain ⟨E, hE⟩ : ∃ E, E = w5.heap.size := ⟨_, rfl⟩
  have S5 : Hid (Below w.heap.size w w5 ∧ Box w5 w.heap.size 26 #[.slice xa r.nn xc, .slice fa r.nf fc, .slice oa r.no oc, .slice ka r.nk kc] ∧ QAt w5 (.slice a0 n c0) n F o0 ∧ (∀ g, o0 = some g → w.heap.size < g ∧ g < C) ∧ w.heap.size < C ∧ C ≤ E ∧ E = w5.heap.size ∧ RwOwn C w5 r xb5 fb5 ob5 kb5 rr5 ∧ kb5 < E ∧ (∀ i, i < r.nk → rr5 i < E)) := by
    have hbw := ho5.k.bw
    obtain ⟨t1, t2, t3, t4, t5⟩ := S3.out
    refine ⟨t1.trans (hb5.mono t1.size), t2.mono hb5 (Nat.le_refl _), t3.mono hb5 (Nat.le_refl _), t4, t5, ?_, hE, by rw [hC]; exact ho5, by rw [hE]; exact ho5.k.lt, fun i hi => ?_⟩
    · have := hb5.size
      omega
    · obtain ⟨vs, _, _, k3⟩ := hbw
      obtain ⟨_, ⟨cu, k4, _⟩, _⟩ := k3 i hi
      rw [hE]
      exact k4.lt
  clear ho5 hb5 S3 hC hE
  have z5 : w.heap.size < w5.heap.size := S5.out.2.1.lt
  go_wp2_with fail
  clear z5
  have X : Hid (Below w.heap.size w (w5.alloc (.cells #[.slice (some ⟨xb5, 0, none⟩) r.nn r.nn, .slice (some ⟨fb5, 0, none⟩) r.nf r.nf, .slice (some ⟨ob5, 0, none⟩) r.no r.no, .slice (some ⟨kb5, 0, none⟩) r.nk r.nk] 29)) ∧ Box (w5.alloc (.cells #[.slice (some ⟨xb5, 0, none⟩) r.nn r.nn, .slice (some ⟨fb5, 0, none⟩) r.nf r.nf, .slice (some ⟨ob5, 0, none⟩) r.no r.no, .slice (some ⟨kb5, 0, none⟩) r.nk r.nk] 29)) w.heap.size 26 #[.slice xa r.nn xc, .slice fa r.nf fc, .slice oa r.no oc, .slice ka r.nk kc] ∧ QAt (w5.alloc (.cells #[.slice (some ⟨xb5, 0, none⟩) r.nn r.nn, .slice (some ⟨fb5, 0, none⟩) r.nf r.nf, .slice (some ⟨ob5, 0, none⟩) r.no r.no, .slice (some ⟨kb5, 0, none⟩) r.nk r.nk] 29)) (.slice a0 n c0) n F o0 ∧ (∀ g, o0 = some g → w.heap.size < g ∧ g < C) ∧ w.heap.size < C ∧ C ≤ E ∧ RwOwn C (w5.alloc (.cells #[.slice (some ⟨xb5, 0, none⟩) r.nn r.nn, .slice (some ⟨fb5, 0, none⟩) r.nf r.nf, .slice (some ⟨ob5, 0, none⟩) r.no r.no, .slice (some ⟨kb5, 0, none⟩) r.nk r.nk] 29)) r xb5 fb5 ob5 kb5 rr5 ∧ kb5 < E ∧ (∀ i, i < r.nk → rr5 i < E) ∧ Box (w5.alloc (.cells #[.slice (some ⟨xb5, 0, none⟩) r.nn r.nn, .slice (some ⟨fb5, 0, none⟩) r.nf r.nf, .slice (some ⟨ob5, 0, none⟩) r.no r.no, .slice (some ⟨kb5, 0, none⟩) r.nk r.nk] 29)) E 29 #[.slice (some ⟨xb5, 0, none⟩) r.nn r.nn, .slice (some ⟨fb5, 0, none⟩) r.nf r.nf, .slice (some ⟨ob5, 0, none⟩) r.no r.no, .slice (some ⟨kb5, 0, none⟩) r.nk r.nk]) := by
    obtain ⟨t1, t2, t3, t4, t5, t6, t7, t8, t9, t10⟩ := S5.out
    refine ⟨t1.alloc t1.size _, t2.alloc _, t3.alloc _, t4, t5, t6, t8.mono (Nat.le_refl _) (bel1 _ _) (Nat.le_refl _), t9, t10, ?_⟩
    rw [t7]
    exact Box.new w5 29 _
  have hEq : w5.heap.size = E := S5.out.2.2.2.2.2.2.1.symm
  rw [hEq]
  clear S5
  generalize w5.alloc (.cells #[.slice (some ⟨xb5, 0, none⟩) r.nn r.nn, .slice (some ⟨fb5, 0, none⟩) r.nf r.nf, .slice (some ⟨ob5, 0, none⟩) r.no r.no, .slice (some ⟨kb5, 0, none⟩) r.nk r.nk] 29) = w6 at X ⊢
  refine (H12.out _ _ _ _ _ _ _ _ _ ((X.out.2.2.2.2.2.2.1).in (Nat.zero_le _))).mono ?_
  rintro e w7 ⟨v6, o6, rfl, hq6, hl6, hb7⟩
  obtain ⟨a6, c6, rfl⟩ := hq6.val
  have S7 : Hid (Below w.heap.size w w7 ∧ Box w7 w.heap.size 26 #[.slice xa r.nn xc, .slice fa r.nf fc, .slice oa r.no oc, .slice ka r.nk kc] ∧ QAt w7 (.slice a0 n c0) n F o0 ∧ (∀ g, o0 = some g → w.heap.size < g ∧ g < C) ∧ w.heap.size < C ∧ C ≤ E ∧ RwOwn C w7 r xb5 fb5 ob5 kb5 rr5 ∧ kb5 < E ∧ (∀ i, i < r.nk → rr5 i < E) ∧ Box w7 E 29 #[.slice (some ⟨xb5, 0, none⟩) r.nn r.nn, .slice (some ⟨fb5, 0, none⟩) r.nf r.nf, .slice (some ⟨ob5, 0, none⟩) r.no r.no, .slice (some ⟨kb5, 0, none⟩) r.nk r.nk] ∧ QAt w7 (.slice a6 n c6) n F o6 ∧ (∀ g, o6 = some g → E < g)) := by
    obtain ⟨t1, t2, t3, t4, t5, t6, t7, t8, t9, t10⟩ := X.out
    exact ⟨t1.trans (hb7.mono t1.size), t2.mono hb7 (Nat.le_refl _), t3.mono hb7 (Nat.le_refl _), t4, t5, t6, t7.mono (Nat.le_refl _) hb7 (Nat.le_refl _), t8, t9, t10.mono hb7 (Nat.le_refl _), hq6, fun g e => by have := hl6 g e; have := t10.lt; omega⟩
  clear X hq6 hl6 hb7 hEq
  go_wp2_with fail
  refine (eqIntS a6 a0 n c6 c0 (fun i _ => F i) w7 hn (S7.out.2.2.2.2.2.2.2.2.2.2.1.vs fun _ _ => Nat.zero_le _) (S7.out.2.2.1.vs fun _ _ => Nat.zero_le _)).mono ?_
  rintro e w8 ⟨rfl, hb8⟩
  have T8 : ∀ W, Below w7.heap.size w7 W → Below w.heap.size w W ∧ Box W w.heap.size 26 #[.slice xa r.nn xc, .slice fa r.nf fc, .slice oa r.no oc, .slice ka r.nk kc] ∧ QAt W (.slice a0 n c0) n F o0 ∧ (∀ g, o0 = some g → w.heap.size < g ∧ g < C) ∧ w.heap.size < C ∧ C ≤ E ∧ RwOwn C W r xb5 fb5 ob5 kb5 rr5 ∧ kb5 < E ∧ (∀ i, i < r.nk → rr5 i < E) ∧ Box W E 29 #[.slice (some ⟨xb5, 0, none⟩) r.nn r.nn, .slice (some ⟨fb5, 0, none⟩) r.nf r.nf, .slice (some ⟨ob5, 0, none⟩) r.no r.no, .slice (some ⟨kb5, 0, none⟩) r.nk r.nk] ∧ QAt W (.slice a6 n c6) n F o6 ∧ (∀ g, o6 = some g → E < g) := fun W hb => by
    obtain ⟨t1, t2, t3, t4, t5, t6, t7, t8, t9, t10, t11, t12⟩ := S7.out
    exact ⟨t1.trans (hb.mono t1.size), t2.mono hb (Nat.le_refl _), t3.mono hb (Nat.le_refl _), t4, t5, t6, t7.mono (Nat.le_refl _) hb (Nat.le_refl _), t8, t9, t10.mono hb (Nat.le_refl _), t11.mono hb (Nat.le_refl _), t12⟩
  have HT : Hid (∀ W, Below w7.heap.size w7 W → Below w.heap.size w W ∧ Box W w.heap.size 26 #[.slice xa r.nn xc, .slice fa r.nf fc, .slice oa r.no oc, .slice ka r.nk kc] ∧ QAt W (.slice a0 n c0) n F o0 ∧ (∀ g, o0 = some g → w.heap.size < g ∧ g < C) ∧ w.heap.size < C ∧ C ≤ E ∧ RwOwn C W r xb5 fb5 ob5 kb5 rr5 ∧ kb5 < E ∧ (∀ i, i < r.nk → rr5 i < E) ∧ Box W E 29 #[.slice (some ⟨xb5, 0, none⟩) r.nn r.nn, .slice (some ⟨fb5, 0, none⟩) r.nf r.nf, .slice (some ⟨ob5, 0, none⟩) r.no r.no, .slice (some ⟨kb5, 0, none⟩) r.nk r.nk] ∧ QAt W (.slice a6 n c6) n F o6 ∧ (∀ g, o6 = some g → E < g)) := T8
  have HB8 : Hid (Below w7.heap.size w7 w8) := hb8
  clear T8 S7 hb8
  have D8 : Hid (Below w7.heap.size w7 w8.drew) := HB8.out.drew
  have y0 : w8.cell? ⟨w.heap.size, 0, none⟩ = some (.slice xa r.nn xc) := (HT.out _ HB8.out).2.1.cell 0
  have y1 : w8.cell? ⟨w.heap.size, 1, none⟩ = some (.slice fa r.nf fc) := (HT.out _ HB8.out).2.1.cell 1
  have y2 : w8.cell? ⟨w.heap.size, 2, none⟩ = some (.slice oa r.no oc) := (HT.out _ HB8.out).2.1.cell 2
  have y3 : w8.cell? ⟨w.heap.size, 3, none⟩ = some (.slice ka r.nk kc) := (HT.out _ HB8.out).2.1.cell 3
  have x0 : w8.cell? ⟨E, 0, none⟩ = some (.slice (some ⟨xb5, 0, none⟩) r.nn r.nn) := (HT.out _ HB8.out).2.2.2.2.2.2.2.2.2.1.cell 0
  have x1 : w8.cell? ⟨E, 1, none⟩ = some (.slice (some ⟨fb5, 0, none⟩) r.nf r.nf) := (HT.out _ HB8.out).2.2.2.2.2.2.2.2.2.1.cell 1
  have x2 : w8.cell? ⟨E, 2, none⟩ = some (.slice (some ⟨ob5, 0, none⟩) r.no r.no) := (HT.out _ HB8.out).2.2.2.2.2.2.2.2.2.1.cell 2
  have x3 : w8.cell? ⟨E, 3, none⟩ = some (.slice (some ⟨kb5, 0, none⟩) r.nk r.nk) := (HT.out _ HB8.out).2.2.2.2.2.2.2.2.2.1.cell 3
  have za : w.heap.size < w8.heap.size := (HT.out _ HB8.out).2.1.lt
  have zx : E < w8.heap.size := (HT.out _ HB8.out).2.2.2.2.2.2.2.2.2.1.lt
  go_wp2_with fail
  go_region_held3 (fun w' => w'.cell? ⟨w.heap.size, 0, none⟩ = some (.slice xa r.nn xc) ∧ w'.cell? ⟨w.heap.size, 1, none⟩ = some (.slice fa r.nf fc) ∧ w'.cell? ⟨w.heap.size, 2, none⟩ = some (.slice oa r.no oc) ∧ w'.cell? ⟨w.heap.size, 3, none⟩ = some (.slice ka r.nk kc) ∧ w'.cell? ⟨E, 0, none⟩ = some (.slice (some ⟨xb5, 0, none⟩) r.nn r.nn) ∧ w'.cell? ⟨E, 1, none⟩ = some (.slice (some ⟨fb5, 0, none⟩) r.nf r.nf) ∧ w'.cell? ⟨E, 2, none⟩ = some (.slice (some ⟨ob5, 0, none⟩) r.no r.no) ∧ w'.cell? ⟨E, 3, none⟩ = some (.slice (some ⟨kb5, 0, none⟩) r.nk r.nk)) (go_keep) (first
    | (go_at_call 8; refine (toRow r xa fa oa ka xc fc oc kc _ HS.out (HP.out.mono (Nat.le_refl _) (HT.out _ D8.out).1 (Nat.le_refl _))).mono ?_; rintro e w9 ⟨xb9, fb9, ob9, kb9, rr9, rfl, ho9, hb9⟩; have ka0 : w9.cell? ⟨w.heap.size, 0, none⟩ = some (.slice xa r.nn xc) := cell_keep hb9 za y0; have ka1 : w9.cell? ⟨w.heap.size, 1, none⟩ = some (.slice fa r.nf fc) := cell_keep hb9 za y1; have ka2 : w9.cell? ⟨w.heap.size, 2, none⟩ = some (.slice oa r.no oc) := cell_keep hb9 za y2; have ka3 : w9.cell? ⟨w.heap.size, 3, none⟩ = some (.slice ka r.nk kc) := cell_keep hb9 za y3; have kx0 : w9.cell? ⟨E, 0, none⟩ = some (.slice (some ⟨xb5, 0, none⟩) r.nn r.nn) := cell_keep hb9 zx x0; have kx1 : w9.cell? ⟨E, 1, none⟩ = some (.slice (some ⟨fb5, 0, none⟩) r.nf r.nf) := cell_keep hb9 zx x1; have kx2 : w9.cell? ⟨E, 2, none⟩ = some (.slice (some ⟨ob5, 0, none⟩) r.no r.no) := cell_keep hb9 zx x2; have kx3 : w9.cell? ⟨E, 3, none⟩ = some (.slice (some ⟨kb5, 0, none⟩) r.nk r.nk) := cell_keep hb9 zx x3)
    | (go_at_call 10; refine (eqRow r _ _ _ _ _ _ _ _ _ _ _ _ _ _ _ _ _ HS.out (((HT.out _ D8.out).2.2.2.2.2.2.1.in (Nat.zero_le _)).mono (Nat.le_refl _) hb9 (Nat.le_refl _)) (ho9.in (Nat.zero_le _))).mono ?_; rintro e w10 ⟨rfl, hb10⟩; have la0 : w10.cell? ⟨w.heap.size, 0, none⟩ = some (.slice xa r.nn xc) := cell_keep hb10 (Nat.lt_of_lt_of_le za hb9.size) ka0; have la1 : w10.cell? ⟨w.heap.size, 1, none⟩ = some (.slice fa r.nf fc) := cell_keep hb10 (Nat.lt_of_lt_of_le za hb9.size) ka1; have la2 : w10.cell? ⟨w.heap.size, 2, none⟩ = some (.slice oa r.no oc) := cell_keep hb10 (Nat.lt_of_lt_of_le za hb9.size) ka2; have la3 : w10.cell? ⟨w.heap.size, 3, none⟩ = some (.slice ka r.nk kc) := cell_keep hb10 (Nat.lt_of_lt_of_le za hb9.size) ka3; have lx0 : w10.cell? ⟨E, 0, none⟩ = some (.slice (some ⟨xb5, 0, none⟩) r.nn r.nn) := cell_keep hb10 (Nat.lt_of_lt_of_le zx hb9.size) kx0; have lx1 : w10.cell? ⟨E, 1, none⟩ = some (.slice (some ⟨fb5, 0, none⟩) r.nf r.nf) := cell_keep hb10 (Nat.lt_of_lt_of_le zx hb9.size) kx1; have lx2 : w10.cell? ⟨E, 2, none⟩ = some (.slice (some ⟨ob5, 0, none⟩) r.no r.no) := cell_keep hb10 (Nat.lt_of_lt_of_le zx hb9.size) kx2; have lx3 : w10.cell? ⟨E, 3, none⟩ = some (.slice (some ⟨kb5, 0, none⟩) r.nk r.nk) := cell_keep hb10 (Nat.lt_of_lt_of_le zx hb9.size) kx3))
  all_goals
    have HB10 : Hid (Below w7.heap.size w7 w10) := (D8.out.trans (hb9.mono D8.out.size)).trans (hb10.mono (D8.out.trans (hb9.mono D8.out.size)).size)
    clear hb9 hb10 ho9 D8 HB8 y0 y1 y2 y3 x0 x1 x2 x3 ka0 ka1 ka2 ka3 kx0 kx1 kx2 kx3 la0 la1 la2 la3 za zx
    have S10 : Hid (Below w.heap.size w w10 ∧ Box w10 w.heap.size 26 #[.slice xa r.nn xc, .slice fa r.nf fc, .slice oa r.no oc, .slice ka r.nk kc] ∧ QAt w10 (.slice a0 n c0) n F o0 ∧ (∀ g, o0 = some g → w.heap.size < g ∧ g < C) ∧ w.heap.size < C ∧ C ≤ E ∧ RwOwn C w10 r xb5 fb5 ob5 kb5 rr5 ∧ kb5 < E ∧ (∀ i, i < r.nk → rr5 i < E) ∧ Box w10 E 29 #[.slice (some ⟨xb5, 0, none⟩) r.nn r.nn, .slice (some ⟨fb5, 0, none⟩) r.nf r.nf, .slice (some ⟨ob5, 0, none⟩) r.no r.no, .slice (some ⟨kb5, 0, none⟩) r.nk r.nk] ∧ QAt w10 (.slice a6 n c6) n F o6 ∧ (∀ g, o6 = some g → E < g)) := HT.out _ HB10.out
    clear HT HB10
    go_wp2_with fail
    clear lx0 lx1 lx2 lx3
    refine (markRow14 r xb5 fb5 ob5 kb5 rr5 C E w10 HS.out S10.out.2.2.2.2.2.2.1 S10.out.2.2.2.2.2.2.2.1 S10.out.2.2.2.2.2.2.2.2.1).mono ?_
    rintro e w11 ⟨⟨m, rfl⟩, hf11⟩
    have S11 : Hid (Below w.heap.size w w11 ∧ Box w11 w.heap.size 26 #[.slice xa r.nn xc, .slice fa r.nf fc, .slice oa r.no oc, .slice ka r.nk kc] ∧ QAt w11 (.slice a0 n c0) n F o0 ∧ QAt w11 (.slice a6 n c6) n F o6 ∧ (∀ g, o0 = some g → w.heap.size < g ∧ o6 ≠ some g) ∧ (∀ g, o6 = some g → w.heap.size < g)) := by
      obtain ⟨t1, t2, t3, t4, t5, t6, t7, t8, t9, t10, t11, t12⟩ := S10.out
      refine ⟨t1.trans (hf11.below t1.size fun b hb => by omega), t2.fr hf11 (by omega), t3.fr hf11 fun g e => by have := t4 g e; omega, t11.fr hf11 fun g e => by have := t12 g e; omega, fun g e => ⟨(t4 g e).1, fun e' => ?_⟩, fun g e => by have := t12 g e; omega⟩
      have h1 := t4 g e
      have h2 := t12 g e'
      omega
    have hm0 : ¬ ((m : Int) < 0) := by omega
    clear hf11 S10
    go_wp2_with fail
    refine (eqIntS a6 a0 n c6 c0 (fun i _ => F i) w11 hn (S11.out.2.2.2.1.vs fun _ _ => Nat.zero_le _) (S11.out.2.2.1.vs fun _ _ => Nat.zero_le _)).mono ?_
    rintro e w12 ⟨rfl, hb12⟩
    have S12 : Hid (Below w.heap.size w w12 ∧ Box w12 w.heap.size 26 #[.slice xa r.nn xc, .slice fa r.nf fc, .slice oa r.no oc, .slice ka r.nk kc] ∧ QAt w12 (.slice a0 n c0) n F o0 ∧ QAt w12 (.slice a6 n c6) n F o6 ∧ (∀ g, o0 = some g → w.heap.size < g ∧ o6 ≠ some g) ∧ (∀ g, o6 = some g → w.heap.size < g)) := by
      obtain ⟨t1, t2, t3, t4, t5, t6⟩ := S11.out
      exact ⟨t1.trans (hb12.mono t1.size), t2.mono hb12 (Nat.le_refl _), t3.mono hb12 (Nat.le_refl _), t4.mono hb12 (Nat.le_refl _), t5, t6⟩
    clear hb12 S11 hm0
    go_wp2_with fail
    refine (mark15 (.slice a6 n c6) n F o6 1 w12 hn (by omega) S12.out.2.2.2.1).mono ?_
    rintro e w13 ⟨rfl, hq13, hf13⟩
    have S13 : Hid (Below w.heap.size w w13 ∧ Box w13 w.heap.size 26 #[.slice xa r.nn xc, .slice fa r.nf fc, .slice oa r.no oc, .slice ka r.nk kc] ∧ QAt w13 (.slice a0 n c0) n F o0 ∧ QAt w13 (.slice a6 n c6) n (fun j => ((1 + j : Nat) : Int)) o6) := by
      obtain ⟨t1, t2, t3, t4, t5, t6⟩ := S12.out
      exact ⟨t1.trans (hf13.below t1.size fun b hb e => by have := t6 b e; omega), t2.fr hf13 (fun e => by have := t6 _ e; omega), t3.fr hf13 fun g e e' => (t5 g e).2 e', hq13⟩
    obtain ⟨m1, hm1⟩ : ∃ m1, Hid (1 + n = m1) := ⟨_, rfl⟩
    rw [hm1.out]
    have hm0 : ¬ ((m1 : Int) < 0) := by omega
    have H16 : Hid (∀ W, QAt W (.slice a6 n c6) n (fun j => ((1 + j : Nat) : Int)) o6 → Calls Try.prog 16 #[.slice a6 n c6, .int .i64 1] W fun e w' => e = .returned (.int .i64 (m1 : Int)) ∧ w' = W) := fun W hW => by
      have := held16 a6 n c6 1 W hn (by omega) (hW.vs fun _ _ => Nat.zero_le _)
      rw [hm1.out] at this
      exact this
    clear hq13 hf13 S12 hm1
    go_wp2_with fail
    refine (H16.out _ S13.out.2.2.2).mono ?_
    rintro e w14 ⟨rfl, hw⟩
    have hw := hw.symm
    subst hw
    have y0 : w13.cell? ⟨w.heap.size, 0, none⟩ = some (.slice xa r.nn xc) := S13.out.2.1.cell 0
    have y1 : w13.cell? ⟨w.heap.size, 1, none⟩ = some (.slice fa r.nf fc) := S13.out.2.1.cell 1
    have y2 : w13.cell? ⟨w.heap.size, 2, none⟩ = some (.slice oa r.no oc) := S13.out.2.1.cell 2
    have y3 : w13.cell? ⟨w.heap.size, 3, none⟩ = some (.slice ka r.nk kc) := S13.out.2.1.cell 3
    go_wp2_with fail
    clear y0 y1 y2 y3
    refine (toRow r xa fa oa ka xc fc oc kc _ HS.out (HP.out.mono (Nat.le_refl _) S13.out.1 (Nat.le_refl _))).mono ?_
    rintro e w15 ⟨xb9, fb9, ob9, kb9, rr9, rfl, ho9, hb15⟩
    have HO9 : Hid (RwIn 0 w15 r (some ⟨xb9, 0, none⟩) (some ⟨fb9, 0, none⟩) (some ⟨ob9, 0, none⟩) (some ⟨kb9, 0, none⟩)) := ho9.in (Nat.zero_le _)
    have S15 : Hid (Below w.heap.size w w15 ∧ QAt w15 (.slice a0 n c0) n F o0 ∧ QAt w15 (.slice a6 n c6) n (fun j => ((1 + j : Nat) : Int)) o6) := by
      obtain ⟨t1, t2, t3, t4⟩ := S13.out
      exact ⟨t1.trans (hb15.mono t1.size), t3.mono hb15 (Nat.le_refl _), t4.mono hb15 (Nat.le_refl _)⟩
    clear ho9 hb15 S13
    go_wp2_with fail
    refine (H12.out _ _ _ _ _ _ _ _ _ HO9.out).mono ?_
    rintro e w16 ⟨v16, o16, rfl, hq16, _, hb16⟩
    obtain ⟨a16, c16, rfl⟩ := hq16.val
    have S16 : Hid (Below w.heap.size w w16 ∧ QAt w16 (.slice a0 n c0) n F o0 ∧ QAt w16 (.slice a6 n c6) n (fun j => ((1 + j : Nat) : Int)) o6 ∧ QAt w16 (.slice a16 n c16) n F o16) := by
      obtain ⟨t1, t3, t4⟩ := S15.out
      exact ⟨t1.trans (hb16.mono t1.size), t3.mono hb16 (Nat.le_refl _), t4.mono hb16 (Nat.le_refl _), hq16⟩
    clear hq16 hb16 S15 HO9
    go_wp2_with fail
    refine (eqIntS a16 a0 n c16 c0 (fun i _ => F i) w16 hn (S16.out.2.2.2.vs fun _ _ => Nat.zero_le _) (S16.out.2.1.vs fun _ _ => Nat.zero_le _)).mono ?_
    rintro e w17 ⟨rfl, hb17⟩
    have S17 : Hid (Below w.heap.size w w17 ∧ QAt w17 (.slice a6 n c6) n (fun j => ((1 + j : Nat) : Int)) o6) := ⟨S16.out.1.trans (hb17.mono S16.out.1.size), S16.out.2.2.1.mono hb17 (Nat.le_refl _)⟩
    clear hb17 S16
    go_wp2_with fail
    refine (H16.out _ S17.out.2).mono ?_
    rintro e w18 ⟨rfl, hw⟩
    have hw := hw.symm
    subst hw
    go_wp2_with fail
    go_ret
    exact ⟨rfl, S17.out.1⟩

end Go.Proofs.Ytflomaagenjfpaa
