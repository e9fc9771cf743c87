import Derived.Test.YtooebighlohobaaIf
import Derived.Test.YtooebighlohobaaEq
import Derived.Deep.RegionHeld3
namespace Go.Proofs.Ytooebighlohobaa
open Go.RowKit

set_option maxRecDepth 100000 in
set_option maxHeartbeats 8000000 in
theorem law3 (p : Pl) (wa ya ba : Option Addr) (wc yc bc : Nat) (w : World) (hf : p.fits) (hP : PlIn 0 w p wa ya ba) :
    Calls Try.prog 3 #[.agg #[.int .i64 p.sec, .slice wa p.nw wc, .slice ya p.ny yc, .slice ba p.nb bc, .int .i64 p.hold]] w fun e w' => e = .returned (.bool true) ∧ Below w.heap.size w w' := by
  have HP : Hid (PlIn 0 w p wa ya ba) := hP
  clear hP
  go_enter Try.func3, Try.ntmps3
  go_wp2_with fail
  have B0 := bel1 w (.cells #[.int .i64 p.sec, .slice wa p.nw wc, .slice ya p.ny yc, .slice ba p.nb bc, .int .i64 p.hold] 26)
  have A0 := Box.new w 26 #[.int .i64 p.sec, .slice wa p.nw wc, .slice ya p.ny yc, .slice ba p.nb bc, .int .i64 p.hold]
  refine (szPlan p wa ya ba wc yc bc 1048576 _ hf (by omega) (by omega) (HP.out.mono (Nat.le_refl _) B0 (Nat.le_refl _))).mono ?_
  rintro e w1 ⟨r, rfl, hr1, hr2, hb1⟩
  have S1 : Hid (Below w.heap.size w w1 ∧ Box w1 w.heap.size 26 #[.int .i64 p.sec, .slice wa p.nw wc, .slice ya p.ny yc, .slice ba p.nb bc, .int .i64 p.hold]) := ⟨B0.trans (hb1.mono B0.size), A0.mono hb1 (Nat.le_refl _)⟩
  clear hb1 B0 A0
  by_cases hneg : r < 0
  · clear hr2
    go_wp2_with fail
    go_ret
    exact ⟨rfl, S1.out.1⟩
  have HS : Hid p.small := hr2 (by omega)
  clear hr2
  have HI : Hid (∀ (W : World) (C wb yb bb : Nat) (lo rr : Nat → Nat), PlOwn C W p wb yb bb lo rr → Calls Try.prog 9 #[.agg #[.int .i64 p.sec, .slice (some ⟨wb, 0, none⟩) p.nw p.nw, .slice (some ⟨yb, 0, none⟩) p.ny p.ny, .slice (some ⟨bb, 0, none⟩) p.nb p.nb, .int .i64 p.hold]] W fun e w' => e = .returned (.agg #[.int .i64 (planF p).1, .int .i64 (planF p).2]) ∧ Below W.heap.size W w') := fun W C wb yb bb lo rr h => planI9 p wb yb bb lo rr W HS.out (h.keep (Nat.zero_le _) (Nat.le_refl _) fun _ _ => rfl)
  have HP7 : Hid (∀ (W : World) (wa ya ba : Option Addr) (wc yc bc : Nat), PlIn 0 W p wa ya ba → Calls Try.prog 7 #[.agg #[.int .i64 p.sec, .slice wa p.nw wc, .slice ya p.ny yc, .slice ba p.nb bc, .int .i64 p.hold]] W fun e w' => e = .returned (.agg #[.int .i64 (planF p).1, .int .i64 (planF p).2]) ∧ Below W.heap.size W w') := fun W wa ya ba wc yc bc h => plan7 p wa ya ba wc yc bc W HS.out h
  generalize (planF p).1 = c at HI HP7
  generalize (planF p).2 = d at HI HP7
  have a0 : w1.cell? ⟨w.heap.size, 0, none⟩ = some (.int .i64 p.sec) := S1.out.2.cell 0
  have a1 : w1.cell? ⟨w.heap.size, 1, none⟩ = some (.slice wa p.nw wc) := S1.out.2.cell 1
  have a2 : w1.cell? ⟨w.heap.size, 2, none⟩ = some (.slice ya p.ny yc) := S1.out.2.cell 2
  have a3 : w1.cell? ⟨w.heap.size, 3, none⟩ = some (.slice ba p.nb bc) := S1.out.2.cell 3
  have a4 : w1.cell? ⟨w.heap.size, 4, none⟩ = some (.int .i64 p.hold) := S1.out.2.cell 4
  go_wp2_with fail
  clear a0 a1 a2 a3 a4
  refine (toPlan p wa ya ba wc yc bc _ HS.out (HP.out.mono (Nat.le_refl _) S1.out.1 (Nat.le_refl _))).mono ?_
  rintro e w2 ⟨wb, yb, bb, lo, rr, rfl, ho2, hb2⟩
  have S2 : Hid (Below w.heap.size w w2 ∧ Box w2 w.heap.size 26 #[.int .i64 p.sec, .slice wa p.nw wc, .slice ya p.ny yc, .slice ba p.nb bc, .int .i64 p.hold]) := ⟨S1.out.1.trans (hb2.mono S1.out.1.size), S1.out.2.mono hb2 (Nat.le_refl _)⟩
  have HO2 : Hid (PlIn 0 w2 p (some ⟨wb, 0, none⟩) (some ⟨yb, 0, none⟩) (some ⟨bb, 0, none⟩)) := ho2.in (Nat.zero_le _)
  clear ho2 hb2 S1
  go_wp2_with fail
  refine (HP7.out _ _ _ _ _ _ _ HO2.out).mono ?_
  rintro e w3 ⟨rfl, hb3⟩
  have S3 : Hid (Below w.heap.size w w3 ∧ Box w3 w.heap.size 26 #[.int .i64 p.sec, .slice wa p.nw wc, .slice ya p.ny yc, .slice ba p.nb bc, .int .i64 p.hold]) := ⟨S2.out.1.trans (hb3.mono S2.out.1.size), S2.out.2.mono hb3 (Nat.le_refl _)⟩
  clear hb3 S2 HO2
  have a0 : w3.cell? ⟨w.heap.size, 0, none⟩ = some (.int .i64 p.sec) := S3.out.2.cell 0
  have a1 : w3.cell? ⟨w.heap.size, 1, none⟩ = some (.slice wa p.nw wc) := S3.out.2.cell 1
  have a2 : w3.cell? ⟨w.heap.size, 2, none⟩ = some (.slice ya p.ny yc) := S3.out.2.cell 2
  have a3 : w3.cell? ⟨w.heap.size, 3, none⟩ = some (.slice ba p.nb bc) := S3.out.2.cell 3
  have a4 : w3.cell? ⟨w.heap.size, 4, none⟩ = some (.int .i64 p.hold) := S3.out.2.cell 4
  have z3 : w.heap.size < w3.heap.size := S3.out.2.lt
  go_wp2_with fail
  clear a0 a1 a2 a3 a4
  have S4 : Hid (Below w.heap.size w (w3.alloc (.cells #[.int .i64 c, .int .i64 d] 29)) ∧ Box (w3.alloc (.cells #[.int .i64 c, .int .i64 d] 29)) w.heap.size 26 #[.int .i64 p.sec, .slice wa p.nw wc, .slice ya p.ny yc, .slice ba p.nb bc, .int .i64 p.hold] ∧ Box (w3.alloc (.cells #[.int .i64 c, .int .i64 d] 29)) w3.heap.size 29 #[.int .i64 c, .int .i64 d]) := ⟨S3.out.1.alloc S3.out.1.size _, S3.out.2.alloc _, Box.new w3 29 _⟩
  refine (toPlan p wa ya ba wc yc bc _ HS.out (HP.out.mono (Nat.le_refl _) S4.out.1 (Nat.le_refl _))).mono ?_
  rintro e w5 ⟨wb5, yb5, bb5, lo5, rr5, rfl, ho5, hb5⟩
  generalize w3.heap.size = f0 at S4 ⊢
  have S5 : Hid (Below w.heap.size w w5 ∧ Box w5 w.heap.size 26 #[.int .i64 p.sec, .slice wa p.nw wc, .slice ya p.ny yc, .slice ba p.nb bc, .int .i64 p.hold] ∧ Box w5 f0 29 #[.int .i64 c, .int .i64 d]) := ⟨S4.out.1.trans (hb5.mono S4.out.1.size), S4.out.2.1.mono hb5 (Nat.le_refl _), S4.out.2.2.mono hb5 (Nat.le_refl _)⟩
  have HO5 : Hid (PlOwn 0 w5 p wb5 yb5 bb5 lo5 rr5) := ho5.keep (Nat.zero_le _) (Nat.le_refl _) fun _ _ => rfl
  clear ho5 hb5 S3 S4 z3
  have z5 : w.heap.size < w5.heap.size := S5.out.2.1.lt
  have y5 : f0 < w5.heap.size := S5.out.2.2.lt
  go_wp2_with fail
  clear z5 y5
  have X : Hid (Below w.heap.size w (w5.alloc (.cells #[.int .i64 p.sec, .slice (some ⟨wb5, 0, none⟩) p.nw p.nw, .slice (some ⟨yb5, 0, none⟩) p.ny p.ny, .slice (some ⟨bb5, 0, none⟩) p.nb p.nb, .int .i64 p.hold] 33)) ∧ Box (w5.alloc (.cells #[.int .i64 p.sec, .slice (some ⟨wb5, 0, none⟩) p.nw p.nw, .slice (some ⟨yb5, 0, none⟩) p.ny p.ny, .slice (some ⟨bb5, 0, none⟩) p.nb p.nb, .int .i64 p.hold] 33)) w.heap.size 26 #[.int .i64 p.sec, .slice wa p.nw wc, .slice ya p.ny yc, .slice ba p.nb bc, .int .i64 p.hold] ∧ Box (w5.alloc (.cells #[.int .i64 p.sec, .slice (some ⟨wb5, 0, none⟩) p.nw p.nw, .slice (some ⟨yb5, 0, none⟩) p.ny p.ny, .slice (some ⟨bb5, 0, none⟩) p.nb p.nb, .int .i64 p.hold] 33)) f0 29 #[.int .i64 c, .int .i64 d] ∧ Box (w5.alloc (.cells #[.int .i64 p.sec, .slice (some ⟨wb5, 0, none⟩) p.nw p.nw, .slice (some ⟨yb5, 0, none⟩) p.ny p.ny, .slice (some ⟨bb5, 0, none⟩) p.nb p.nb, .int .i64 p.hold] 33)) w5.heap.size 33 #[.int .i64 p.sec, .slice (some ⟨wb5, 0, none⟩) p.nw p.nw, .slice (some ⟨yb5, 0, none⟩) p.ny p.ny, .slice (some ⟨bb5, 0, none⟩) p.nb p.nb, .int .i64 p.hold]) := ⟨S5.out.1.alloc S5.out.1.size _, S5.out.2.1.alloc _, S5.out.2.2.alloc _, Box.new w5 33 _⟩
  have HO6 : Hid (PlOwn 0 (w5.alloc (.cells #[.int .i64 p.sec, .slice (some ⟨wb5, 0, none⟩) p.nw p.nw, .slice (some ⟨yb5, 0, none⟩) p.ny p.ny, .slice (some ⟨bb5, 0, none⟩) p.nb p.nb, .int .i64 p.hold] 33)) p wb5 yb5 bb5 lo5 rr5) := HO5.out.mono (Nat.le_refl _) (bel1 _ _) (Nat.le_refl _)
  refine (HI.out _ _ _ _ _ _ _ HO6.out).mono ?_
  rintro e w6 ⟨rfl, hb6⟩
  generalize w5.heap.size = xq at X ⊢
  have S6 : Hid (Below w.heap.size w w6 ∧ Box w6 w.heap.size 26 #[.int .i64 p.sec, .slice wa p.nw wc, .slice ya p.ny yc, .slice ba p.nb bc, .int .i64 p.hold] ∧ Box w6 f0 29 #[.int .i64 c, .int .i64 d] ∧ Box w6 xq 33 #[.int .i64 p.sec, .slice (some ⟨wb5, 0, none⟩) p.nw p.nw, .slice (some ⟨yb5, 0, none⟩) p.ny p.ny, .slice (some ⟨bb5, 0, none⟩) p.nb p.nb, .int .i64 p.hold] ∧ PlIn 0 w6 p (some ⟨wb5, 0, none⟩) (some ⟨yb5, 0, none⟩) (some ⟨bb5, 0, none⟩)) := ⟨X.out.1.trans (hb6.mono X.out.1.size), X.out.2.1.mono hb6 (Nat.le_refl _), X.out.2.2.1.mono hb6 (Nat.le_refl _), X.out.2.2.2.mono hb6 (Nat.le_refl _), (HO6.out.mono (Nat.le_refl _) hb6 (Nat.le_refl _)).in (Nat.le_refl _)⟩
  clear X HO5 HO6 S5 hb6
  have q0 : w6.cell? ⟨f0, 0, none⟩ = some (.int .i64 c) := S6.out.2.2.1.cell 0
  have q1 : w6.cell? ⟨f0, 1, none⟩ = some (.int .i64 d) := S6.out.2.2.1.cell 1
  have zf : f0 < w6.heap.size := S6.out.2.2.1.lt
  go_wp2_with fail
  clear q0 q1 zf
  have BB := bel1 w6 (.cells #[.int .i64 c, .int .i64 d] 29)
  refine (eqFault c d _).mono ?_
  rintro e w7 ⟨rfl, hb7⟩
  have hb7' : Below w6.heap.size w6 w7 := BB.trans (hb7.mono BB.size)
  have S7 : Hid (Below w.heap.size w w7.drew ∧ Box w7.drew w.heap.size 26 #[.int .i64 p.sec, .slice wa p.nw wc, .slice ya p.ny yc, .slice ba p.nb bc, .int .i64 p.hold] ∧ Box w7.drew xq 33 #[.int .i64 p.sec, .slice (some ⟨wb5, 0, none⟩) p.nw p.nw, .slice (some ⟨yb5, 0, none⟩) p.ny p.ny, .slice (some ⟨bb5, 0, none⟩) p.nb p.nb, .int .i64 p.hold] ∧ PlIn 0 w7.drew p (some ⟨wb5, 0, none⟩) (some ⟨yb5, 0, none⟩) (some ⟨bb5, 0, none⟩)) := ⟨(S6.out.1.trans (hb7'.mono S6.out.1.size)).drew, (S6.out.2.1.mono hb7' (Nat.le_refl _)).drew, (S6.out.2.2.2.1.mono hb7' (Nat.le_refl _)).drew, S6.out.2.2.2.2.mono (Nat.le_refl _) hb7'.drew (Nat.le_refl _)⟩
  clear BB hb7 hb7' S6
  have a0 : w7.cell? ⟨w.heap.size, 0, none⟩ = some (.int .i64 p.sec) := S7.out.2.1.cell 0
  have a1 : w7.cell? ⟨w.heap.size, 1, none⟩ = some (.slice wa p.nw wc) := S7.out.2.1.cell 1
  have a2 : w7.cell? ⟨w.heap.size, 2, none⟩ = some (.slice ya p.ny yc) := S7.out.2.1.cell 2
  have a3 : w7.cell? ⟨w.heap.size, 3, none⟩ = some (.slice ba p.nb bc) := S7.out.2.1.cell 3
  have a4 : w7.cell? ⟨w.heap.size, 4, none⟩ = some (.int .i64 p.hold) := S7.out.2.1.cell 4
  have x0 : w7.cell? ⟨xq, 0, none⟩ = some (.int .i64 p.sec) := S7.out.2.2.1.cell 0
  have x1 : w7.cell? ⟨xq, 1, none⟩ = some (.slice (some ⟨wb5, 0, none⟩) p.nw p.nw) := S7.out.2.2.1.cell 1
  have x2 : w7.cell? ⟨xq, 2, none⟩ = some (.slice (some ⟨yb5, 0, none⟩) p.ny p.ny) := S7.out.2.2.1.cell 2
  have x3 : w7.cell? ⟨xq, 3, none⟩ = some (.slice (some ⟨bb5, 0, none⟩) p.nb p.nb) := S7.out.2.2.1.cell 3
  have x4 : w7.cell? ⟨xq, 4, none⟩ = some (.int .i64 p.hold) := S7.out.2.2.1.cell 4
  have za : w.heap.size < w7.heap.size := S7.out.2.1.lt
  have zx : xq < w7.heap.size := S7.out.2.2.1.lt
  go_wp2_with fail
  go_region_held3 (fun w' => w'.cell? ⟨w.heap.size, 0, none⟩ = some (.int .i64 p.sec) ∧ w'.cell? ⟨w.heap.size, 1, none⟩ = some (.slice wa p.nw wc) ∧ w'.cell? ⟨w.heap.size, 2, none⟩ = some (.slice ya p.ny yc) ∧ w'.cell? ⟨w.heap.size, 3, none⟩ = some (.slice ba p.nb bc) ∧ w'.cell? ⟨w.heap.size, 4, none⟩ = some (.int .i64 p.hold) ∧ w'.cell? ⟨xq, 0, none⟩ = some (.int .i64 p.sec) ∧ w'.cell? ⟨xq, 1, none⟩ = some (.slice (some ⟨wb5, 0, none⟩) p.nw p.nw) ∧ w'.cell? ⟨xq, 2, none⟩ = some (.slice (some ⟨yb5, 0, none⟩) p.ny p.ny) ∧ w'.cell? ⟨xq, 3, none⟩ = some (.slice (some ⟨bb5, 0, none⟩) p.nb p.nb) ∧ w'.cell? ⟨xq, 4, none⟩ = some (.int .i64 p.hold)) (go_keep) (first
    | (go_at_call 8; refine (toPlan p wa ya ba wc yc bc _ HS.out (HP.out.mono (Nat.le_refl _) S7.out.1 (Nat.le_refl _))).mono ?_; rintro e w8 ⟨wb8, yb8, bb8, lo8, rr8, rfl, ho8, hb8⟩; have ka0 : w8.cell? ⟨w.heap.size, 0, none⟩ = some (.int .i64 p.sec) := cell_keep hb8 za a0; have ka1 : w8.cell? ⟨w.heap.size, 1, none⟩ = some (.slice wa p.nw wc) := cell_keep hb8 za a1; have ka2 : w8.cell? ⟨w.heap.size, 2, none⟩ = some (.slice ya p.ny yc) := cell_keep hb8 za a2; have ka3 : w8.cell? ⟨w.heap.size, 3, none⟩ = some (.slice ba p.nb bc) := cell_keep hb8 za a3; have ka4 : w8.cell? ⟨w.heap.size, 4, none⟩ = some (.int .i64 p.hold) := cell_keep hb8 za a4; have kx0 : w8.cell? ⟨xq, 0, none⟩ = some (.int .i64 p.sec) := cell_keep hb8 zx x0; have kx1 : w8.cell? ⟨xq, 1, none⟩ = some (.slice (some ⟨wb5, 0, none⟩) p.nw p.nw) := cell_keep hb8 zx x1; have kx2 : w8.cell? ⟨xq, 2, none⟩ = some (.slice (some ⟨yb5, 0, none⟩) p.ny p.ny) := cell_keep hb8 zx x2; have kx3 : w8.cell? ⟨xq, 3, none⟩ = some (.slice (some ⟨bb5, 0, none⟩) p.nb p.nb) := cell_keep hb8 zx x3; have kx4 : w8.cell? ⟨xq, 4, none⟩ = some (.int .i64 p.hold) := cell_keep hb8 zx x4)
    | (go_at_call 11; refine (eqPlan p _ _ _ _ _ _ _ _ _ _ _ _ _ HS.out (S7.out.2.2.2.mono (Nat.le_refl _) hb8 (Nat.le_refl _)) (ho8.in (Nat.zero_le _))).mono ?_; rintro e w9 ⟨rfl, hb9⟩; have la0 : w9.cell? ⟨w.heap.size, 0, none⟩ = some (.int .i64 p.sec) := cell_keep hb9 (Nat.lt_of_lt_of_le za hb8.size) ka0; have la1 : w9.cell? ⟨w.heap.size, 1, none⟩ = some (.slice wa p.nw wc) := cell_keep hb9 (Nat.lt_of_lt_of_le za hb8.size) ka1; have la2 : w9.cell? ⟨w.heap.size, 2, none⟩ = some (.slice ya p.ny yc) := cell_keep hb9 (Nat.lt_of_lt_of_le za hb8.size) ka2; have la3 : w9.cell? ⟨w.heap.size, 3, none⟩ = some (.slice ba p.nb bc) := cell_keep hb9 (Nat.lt_of_lt_of_le za hb8.size) ka3; have la4 : w9.cell? ⟨w.heap.size, 4, none⟩ = some (.int .i64 p.hold) := cell_keep hb9 (Nat.lt_of_lt_of_le za hb8.size) ka4; have lx0 : w9.cell? ⟨xq, 0, none⟩ = some (.int .i64 p.sec) := cell_keep hb9 (Nat.lt_of_lt_of_le zx hb8.size) kx0; have lx1 : w9.cell? ⟨xq, 1, none⟩ = some (.slice (some ⟨wb5, 0, none⟩) p.nw p.nw) := cell_keep hb9 (Nat.lt_of_lt_of_le zx hb8.size) kx1; have lx2 : w9.cell? ⟨xq, 2, none⟩ = some (.slice (some ⟨yb5, 0, none⟩) p.ny p.ny) := cell_keep hb9 (Nat.lt_of_lt_of_le zx hb8.size) kx2; have lx3 : w9.cell? ⟨xq, 3, none⟩ = some (.slice (some ⟨bb5, 0, none⟩) p.nb p.nb) := cell_keep hb9 (Nat.lt_of_lt_of_le zx hb8.size) kx3; have lx4 : w9.cell? ⟨xq, 4, none⟩ = some (.int .i64 p.hold) := cell_keep hb9 (Nat.lt_of_lt_of_le zx hb8.size) kx4))
  all_goals
    have S9 : Hid (Below w.heap.size w w9) := (S7.out.1.trans (hb8.mono S7.out.1.size)).trans (hb9.mono (S7.out.1.trans (hb8.mono S7.out.1.size)).size)
    go_wp2_with fail
    go_ret
    exact ⟨rfl, S9.out⟩

end Go.Proofs.Ytooebighlohobaa
