import Derived.Test.YtflomaagenjfpaaRs
import Derived.Test.YtflomaagenjfpaaRi
import Derived.Test.YtflomaagenjfpaaTr
import Derived.Test.YtflomaagenjfpaaEq
import Derived.Test.YtflomaagenjfpaaSz
import Derived.Deep.RegionHeld3
namespace Go.Proofs.Ytflomaagenjfpaa
open Go.RowKit

set_option maxRecDepth 100000 in
set_option maxHeartbeats 8000000 in
theorem law3 (r : Rw) (xa fa oa ka : Option Addr) (xc fc oc kc : Nat) (w : World) (hf : r.fits) (hP : RwIn 0 w r xa fa oa ka) :
    Calls Try.prog 3 #[.agg #[.slice xa r.nn xc, .slice fa r.nf fc, .slice oa r.no oc, .slice ka r.nk kc]] w fun e w' => e = .returned (.bool true) ∧ Below w.heap.size w w' := by
  have HP : Hid (RwIn 0 w r xa fa oa ka) := hP
  clear hP
  go_enter Try.func3, Try.ntmps3
  go_wp2_with fail
  have B0 := bel1 w (.cells #[.slice xa r.nn xc, .slice fa r.nf fc, .slice oa r.no oc, .slice ka r.nk kc] 26)
  have A0 := Box.new w 26 #[.slice xa r.nn xc, .slice fa r.nf fc, .slice oa r.no oc, .slice ka r.nk kc]
  refine (szRow r xa fa oa ka xc fc oc kc 1048576 _ hf (by omega) (by omega) (HP.out.mono (Nat.le_refl _) B0 (Nat.le_refl _))).mono ?_
  rintro e w1 ⟨l, rfl, hr1, hr2, hb1⟩
  have S1 : Hid (Below w.heap.size w w1 ∧ Box w1 w.heap.size 26 #[.slice xa r.nn xc, .slice fa r.nf fc, .slice oa r.no oc, .slice ka r.nk kc]) := ⟨B0.trans (hb1.mono B0.size), A0.mono hb1 (Nat.le_refl _)⟩
  clear hb1 B0 A0
  by_cases hneg : l < 0
  · clear hr2
    go_wp2_with fail
    go_ret
    exact ⟨rfl, S1.out.1⟩
  have HS : Hid r.small := hr2 (by omega)
  clear hr2
  obtain ⟨c, H7, H9⟩ : ∃ c : Int, Hid (∀ (W : World) (xa fa oa ka : Option Addr) (xc fc oc kc : Nat), RwIn 0 W r xa fa oa ka → Calls Try.prog 7 #[.agg #[.slice xa r.nn xc, .slice fa r.nf fc, .slice oa r.no oc, .slice ka r.nk kc]] W fun e w' => e = .returned (.int .i64 c) ∧ Below W.heap.size W w') ∧ Hid (∀ (W : World) (xa fa oa ka : Option Addr) (xc fc oc kc : Nat), RwIn 0 W r xa fa oa ka → Calls Try.prog 9 #[.agg #[.slice xa r.nn xc, .slice fa r.nf fc, .slice oa r.no oc, .slice ka r.nk kc]] W fun e w' => e = .returned (.int .i64 c) ∧ Below W.heap.size W w') :=
    ⟨_, fun W xa fa oa ka xc fc oc kc h => row7 r xa fa oa ka xc fc oc kc W HS.out h, fun W xa fa oa ka xc fc oc kc h => row9 r xa fa oa ka xc fc oc kc W HS.out h⟩
  have a0 : w1.cell? ⟨w.heap.size, 0, none⟩ = some (.slice xa r.nn xc) := S1.out.2.cell 0
  have a1 : w1.cell? ⟨w.heap.size, 1, none⟩ = some (.slice fa r.nf fc) := S1.out.2.cell 1
  have a2 : w1.cell? ⟨w.heap.size, 2, none⟩ = some (.slice oa r.no oc) := S1.out.2.cell 2
  have a3 : w1.cell? ⟨w.heap.size, 3, none⟩ = some (.slice ka r.nk kc) := S1.out.2.cell 3
  go_wp2_with fail
  clear a0 a1 a2 a3
  refine (toRow r xa fa oa ka xc fc oc kc _ HS.out (HP.out.mono (Nat.le_refl _) S1.out.1 (Nat.le_refl _))).mono ?_
  rintro e w2 ⟨xb, fb, ob, kb, rr, rfl, ho2, hb2⟩
  have S2 : Hid (Below w.heap.size w w2 ∧ Box w2 w.heap.size 26 #[.slice xa r.nn xc, .slice fa r.nf fc, .slice oa r.no oc, .slice ka r.nk kc]) := ⟨S1.out.1.trans (hb2.mono S1.out.1.size), S1.out.2.mono hb2 (Nat.le_refl _)⟩
  have HO2 : Hid (RwIn 0 w2 r (some ⟨xb, 0, none⟩) (some ⟨fb, 0, none⟩) (some ⟨ob, 0, none⟩) (some ⟨kb, 0, none⟩)) := ho2.in (Nat.zero_le _)
  clear ho2 hb2 S1
  go_wp2_with fail
  refine (H7.out _ _ _ _ _ _ _ _ _ HO2.out).mono ?_
  rintro e w3 ⟨rfl, hb3⟩
  have S3 : Hid (Below w.heap.size w w3 ∧ Box w3 w.heap.size 26 #[.slice xa r.nn xc, .slice fa r.nf fc, .slice oa r.no oc, .slice ka r.nk kc]) := ⟨S2.out.1.trans (hb3.mono S2.out.1.size), S2.out.2.mono hb3 (Nat.le_refl _)⟩
  clear hb3 S2 HO2
  have a0 : w3.cell? ⟨w.heap.size, 0, none⟩ = some (.slice xa r.nn xc) := S3.out.2.cell 0
  have a1 : w3.cell? ⟨w.heap.size, 1, none⟩ = some (.slice fa r.nf fc) := S3.out.2.cell 1
  have a2 : w3.cell? ⟨w.heap.size, 2, none⟩ = some (.slice oa r.no oc) := S3.out.2.cell 2
  have a3 : w3.cell? ⟨w.heap.size, 3, none⟩ = some (.slice ka r.nk kc) := S3.out.2.cell 3
  have z3 : w.heap.size < w3.heap.size := S3.out.2.lt
  go_wp2_with fail
  clear a0 a1 a2 a3
  refine (toRow r xa fa oa ka xc fc oc kc _ HS.out (HP.out.mono (Nat.le_refl _) S3.out.1 (Nat.le_refl _))).mono ?_
  rintro e w5 ⟨xb5, fb5, ob5, kb5, rr5, rfl, ho5, hb5⟩
  have S5 : Hid (Below w.heap.size w w5 ∧ Box w5 w.heap.size 26 #[.slice xa r.nn xc, .slice fa r.nf fc, .slice oa r.no oc, .slice ka r.nk kc]) := ⟨S3.out.1.trans (hb5.mono S3.out.1.size), S3.out.2.mono hb5 (Nat.le_refl _)⟩
  have HO5 : Hid (RwOwn 0 w5 r xb5 fb5 ob5 kb5 rr5) := ho5.keep (Nat.zero_le _) fun _ _ => rfl
  clear ho5 hb5 S3 z3
  have z5 : w.heap.size < w5.heap.size := S5.out.2.lt
  go_wp2_with fail
  clear z5
  have X : Hid (Below w.heap.size w (w5.alloc (.cells #[.slice (some ⟨xb5, 0, none⟩) r.nn r.nn, .slice (some ⟨fb5, 0, none⟩) r.nf r.nf, .slice (some ⟨ob5, 0, none⟩) r.no r.no, .slice (some ⟨kb5, 0, none⟩) r.nk r.nk] 29)) ∧ Box (w5.alloc (.cells #[.slice (some ⟨xb5, 0, none⟩) r.nn r.nn, .slice (some ⟨fb5, 0, none⟩) r.nf r.nf, .slice (some ⟨ob5, 0, none⟩) r.no r.no, .slice (some ⟨kb5, 0, none⟩) r.nk r.nk] 29)) w.heap.size 26 #[.slice xa r.nn xc, .slice fa r.nf fc, .slice oa r.no oc, .slice ka r.nk kc] ∧ Box (w5.alloc (.cells #[.slice (some ⟨xb5, 0, none⟩) r.nn r.nn, .slice (some ⟨fb5, 0, none⟩) r.nf r.nf, .slice (some ⟨ob5, 0, none⟩) r.no r.no, .slice (some ⟨kb5, 0, none⟩) r.nk r.nk] 29)) w5.heap.size 29 #[.slice (some ⟨xb5, 0, none⟩) r.nn r.nn, .slice (some ⟨fb5, 0, none⟩) r.nf r.nf, .slice (some ⟨ob5, 0, none⟩) r.no r.no, .slice (some ⟨kb5, 0, none⟩) r.nk r.nk]) := ⟨S5.out.1.alloc S5.out.1.size _, S5.out.2.alloc _, Box.new w5 29 _⟩
  have HO6 : Hid (RwOwn 0 (w5.alloc (.cells #[.slice (some ⟨xb5, 0, none⟩) r.nn r.nn, .slice (some ⟨fb5, 0, none⟩) r.nf r.nf, .slice (some ⟨ob5, 0, none⟩) r.no r.no, .slice (some ⟨kb5, 0, none⟩) r.nk r.nk] 29)) r xb5 fb5 ob5 kb5 rr5) := HO5.out.mono (Nat.le_refl _) (bel1 _ _) (Nat.le_refl _)
  refine (H9.out _ _ _ _ _ _ _ _ _ (HO6.out.in (Nat.le_refl _))).mono ?_
  rintro e w6 ⟨rfl, hb6⟩
  generalize w5.heap.size = xq at X ⊢
  have S7 : Hid (Below w.heap.size w w6.drew ∧ Box w6.drew w.heap.size 26 #[.slice xa r.nn xc, .slice fa r.nf fc, .slice oa r.no oc, .slice ka r.nk kc] ∧ Box w6.drew xq 29 #[.slice (some ⟨xb5, 0, none⟩) r.nn r.nn, .slice (some ⟨fb5, 0, none⟩) r.nf r.nf, .slice (some ⟨ob5, 0, none⟩) r.no r.no, .slice (some ⟨kb5, 0, none⟩) r.nk r.nk] ∧ RwIn 0 w6.drew r (some ⟨xb5, 0, none⟩) (some ⟨fb5, 0, none⟩) (some ⟨ob5, 0, none⟩) (some ⟨kb5, 0, none⟩)) := ⟨(X.out.1.trans (hb6.mono X.out.1.size)).drew, (X.out.2.1.mono hb6 (Nat.le_refl _)).drew, (X.out.2.2.mono hb6 (Nat.le_refl _)).drew, (HO6.out.in (Nat.le_refl _)).mono (Nat.le_refl _) hb6.drew (Nat.le_refl _)⟩
  clear X HO5 HO6 S5 hb6
  have a0 : w6.cell? ⟨w.heap.size, 0, none⟩ = some (.slice xa r.nn xc) := S7.out.2.1.cell 0
  have a1 : w6.cell? ⟨w.heap.size, 1, none⟩ = some (.slice fa r.nf fc) := S7.out.2.1.cell 1
  have a2 : w6.cell? ⟨w.heap.size, 2, none⟩ = some (.slice oa r.no oc) := S7.out.2.1.cell 2
  have a3 : w6.cell? ⟨w.heap.size, 3, none⟩ = some (.slice ka r.nk kc) := S7.out.2.1.cell 3
  have x0 : w6.cell? ⟨xq, 0, none⟩ = some (.slice (some ⟨xb5, 0, none⟩) r.nn r.nn) := S7.out.2.2.1.cell 0
  have x1 : w6.cell? ⟨xq, 1, none⟩ = some (.slice (some ⟨fb5, 0, none⟩) r.nf r.nf) := S7.out.2.2.1.cell 1
  have x2 : w6.cell? ⟨xq, 2, none⟩ = some (.slice (some ⟨ob5, 0, none⟩) r.no r.no) := S7.out.2.2.1.cell 2
  have x3 : w6.cell? ⟨xq, 3, none⟩ = some (.slice (some ⟨kb5, 0, none⟩) r.nk r.nk) := S7.out.2.2.1.cell 3
  have za : w.heap.size < w6.heap.size := S7.out.2.1.lt
  have zx : xq < w6.heap.size := S7.out.2.2.1.lt
  go_wp2_with fail
  go_region_held3 (fun w' => w'.cell? ⟨w.heap.size, 0, none⟩ = some (.slice xa r.nn xc) ∧ w'.cell? ⟨w.heap.size, 1, none⟩ = some (.slice fa r.nf fc) ∧ w'.cell? ⟨w.heap.size, 2, none⟩ = some (.slice oa r.no oc) ∧ w'.cell? ⟨w.heap.size, 3, none⟩ = some (.slice ka r.nk kc) ∧ w'.cell? ⟨xq, 0, none⟩ = some (.slice (some ⟨xb5, 0, none⟩) r.nn r.nn) ∧ w'.cell? ⟨xq, 1, none⟩ = some (.slice (some ⟨fb5, 0, none⟩) r.nf r.nf) ∧ w'.cell? ⟨xq, 2, none⟩ = some (.slice (some ⟨ob5, 0, none⟩) r.no r.no) ∧ w'.cell? ⟨xq, 3, none⟩ = some (.slice (some ⟨kb5, 0, none⟩) r.nk r.nk)) (go_keep) (first
    | (go_at_call 8; refine (toRow r xa fa oa ka xc fc oc kc _ HS.out (HP.out.mono (Nat.le_refl _) S7.out.1 (Nat.le_refl _))).mono ?_; rintro e w8 ⟨xb8, fb8, ob8, kb8, rr8, rfl, ho8, hb8⟩; have ka0 : w8.cell? ⟨w.heap.size, 0, none⟩ = some (.slice xa r.nn xc) := cell_keep hb8 za a0; have ka1 : w8.cell? ⟨w.heap.size, 1, none⟩ = some (.slice fa r.nf fc) := cell_keep hb8 za a1; have ka2 : w8.cell? ⟨w.heap.size, 2, none⟩ = some (.slice oa r.no oc) := cell_keep hb8 za a2; have ka3 : w8.cell? ⟨w.heap.size, 3, none⟩ = some (.slice ka r.nk kc) := cell_keep hb8 za a3; have kx0 : w8.cell? ⟨xq, 0, none⟩ = some (.slice (some ⟨xb5, 0, none⟩) r.nn r.nn) := cell_keep hb8 zx x0; have kx1 : w8.cell? ⟨xq, 1, none⟩ = some (.slice (some ⟨fb5, 0, none⟩) r.nf r.nf) := cell_keep hb8 zx x1; have kx2 : w8.cell? ⟨xq, 2, none⟩ = some (.slice (some ⟨ob5, 0, none⟩) r.no r.no) := cell_keep hb8 zx x2; have kx3 : w8.cell? ⟨xq, 3, none⟩ = some (.slice (some ⟨kb5, 0, none⟩) r.nk r.nk) := cell_keep hb8 zx x3)
    | (go_at_call 10; refine (eqRow r _ _ _ _ _ _ _ _ _ _ _ _ _ _ _ _ _ HS.out (S7.out.2.2.2.mono (Nat.le_refl _) hb8 (Nat.le_refl _)) (ho8.in (Nat.zero_le _))).mono ?_; rintro e w9 ⟨rfl, hb9⟩; have la0 : w9.cell? ⟨w.heap.size, 0, none⟩ = some (.slice xa r.nn xc) := cell_keep hb9 (Nat.lt_of_lt_of_le za hb8.size) ka0; have la1 : w9.cell? ⟨w.heap.size, 1, none⟩ = some (.slice fa r.nf fc) := cell_keep hb9 (Nat.lt_of_lt_of_le za hb8.size) ka1; have la2 : w9.cell? ⟨w.heap.size, 2, none⟩ = some (.slice oa r.no oc) := cell_keep hb9 (Nat.lt_of_lt_of_le za hb8.size) ka2; have la3 : w9.cell? ⟨w.heap.size, 3, none⟩ = some (.slice ka r.nk kc) := cell_keep hb9 (Nat.lt_of_lt_of_le za hb8.size) ka3; have lx0 : w9.cell? ⟨xq, 0, none⟩ = some (.slice (some ⟨xb5, 0, none⟩) r.nn r.nn) := cell_keep hb9 (Nat.lt_of_lt_of_le zx hb8.size) kx0; have lx1 : w9.cell? ⟨xq, 1, none⟩ = some (.slice (some ⟨fb5, 0, none⟩) r.nf r.nf) := cell_keep hb9 (Nat.lt_of_lt_of_le zx hb8.size) kx1; have lx2 : w9.cell? ⟨xq, 2, none⟩ = some (.slice (some ⟨ob5, 0, none⟩) r.no r.no) := cell_keep hb9 (Nat.lt_of_lt_of_le zx hb8.size) kx2; have lx3 : w9.cell? ⟨xq, 3, none⟩ = some (.slice (some ⟨kb5, 0, none⟩) r.nk r.nk) := cell_keep hb9 (Nat.lt_of_lt_of_le zx hb8.size) kx3))
  all_goals
    have S9 : Hid (Below w.heap.size w w9) := (S7.out.1.trans (hb8.mono S7.out.1.size)).trans (hb9.mono (S7.out.1.trans (hb8.mono S7.out.1.size)).size)
    go_wp2_with fail
    go_ret
    exact ⟨rfl, S9.out⟩

end Go.Proofs.Ytflomaagenjfpaa
