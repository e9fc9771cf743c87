import Derived.Test.YtjhmaofjmalglaaGreatTs
import Derived.Test.YtjhmaofjmalglaaGreatLb
namespace Go.Proofs.YtjhmaofjmalglaaGreat
open Go.RowKit Go.Lib

def TrR (w : World) (fp fa fw lg : Int) (nb : Nat) (B : Nat → Nat → Int) (e : Ending) (w' : World) : Prop := ∃ bn : Nat, e = .returned (.agg #[.int .i64 fp, .int .i64 fa, .int .i64 fw, .int .i64 lg, .slice (some ⟨bn, 0, none⟩) nb nb]) ∧ NsAt 2 w.heap.size w' (some ⟨bn, 0, none⟩) nb B ∧ Below w.heap.size w w'
theorem ns_other {C : Nat} {w : World} {a : Option Addr} {n : Nat} {F : Nat → Nat → Int} {c o : Nat} {x : Value} (h : NsAt 2 C w a n F) (hc : c < C) : NsAt 2 C (w.setCell ⟨c, o, none⟩ x) a n F :=
  h.keep (Nat.le_refl _) (Nat.le_of_eq (size_setc _ _ _).symm) fun b hb _ => Below.heap_setCell w ⟨c, o, none⟩ x b (by show b ≠ c; omega)
set_option maxHeartbeats 4000000 in
theorem toTrain16 (fp fa fw lg : Int) (nb : Nat) (B : Nat → Nat → Int) (ba : Option Addr) (bk : Nat) (w : World) (hn : nb ≤ 1048576) (hB : NsAt 2 0 w ba nb B) :
    Calls Tryz.prog 21 #[.agg #[.int .i64 fp, .int .i64 fa, .int .i64 fw, .int .i64 lg, .slice ba nb bk]] w fun e w' => TrR w fp fa fw lg nb B e w' := by
  have S0 : Hid (Below w.heap.size w (((w.alloc (.cells #[.int .i64 fp, .int .i64 fa, .int .i64 fw, .int .i64 lg, .slice ba nb bk] 53)).alloc (.cells #[.int .i64 0, .int .i64 0, .int .i64 0, .int .i64 0, .slice none 0 0] 33)).alloc (.cells #[.int .i64 0, .int .i64 0, .int .i64 0, .int .i64 0, .slice none 0 0] 33)) ∧ Box (((w.alloc (.cells #[.int .i64 fp, .int .i64 fa, .int .i64 fw, .int .i64 lg, .slice ba nb bk] 53)).alloc (.cells #[.int .i64 0, .int .i64 0, .int .i64 0, .int .i64 0, .slice none 0 0] 33)).alloc (.cells #[.int .i64 0, .int .i64 0, .int .i64 0, .int .i64 0, .slice none 0 0] 33)) w.heap.size 53 #[.int .i64 fp, .int .i64 fa, .int .i64 fw, .int .i64 lg, .slice ba nb bk] ∧ Box (((w.alloc (.cells #[.int .i64 fp, .int .i64 fa, .int .i64 fw, .int .i64 lg, .slice ba nb bk] 53)).alloc (.cells #[.int .i64 0, .int .i64 0, .int .i64 0, .int .i64 0, .slice none 0 0] 33)).alloc (.cells #[.int .i64 0, .int .i64 0, .int .i64 0, .int .i64 0, .slice none 0 0] 33)) (w.heap.size + 1) 33 #[.int .i64 0, .int .i64 0, .int .i64 0, .int .i64 0, .slice none 0 0] ∧ Box (((w.alloc (.cells #[.int .i64 fp, .int .i64 fa, .int .i64 fw, .int .i64 lg, .slice ba nb bk] 53)).alloc (.cells #[.int .i64 0, .int .i64 0, .int .i64 0, .int .i64 0, .slice none 0 0] 33)).alloc (.cells #[.int .i64 0, .int .i64 0, .int .i64 0, .int .i64 0, .slice none 0 0] 33)) (w.heap.size + 1 + 1) 33 #[.int .i64 0, .int .i64 0, .int .i64 0, .int .i64 0, .slice none 0 0]) := ⟨((Below.refl _ _).alloc (Nat.le_refl _) _ |>.alloc (by simp) _ |>.alloc (by simp; omega) _), ((Box.new _ _ _).alloc _).alloc _, by have := (Box.new (w.alloc (.cells #[.int .i64 fp, .int .i64 fa, .int .i64 fw, .int .i64 lg, .slice ba nb bk] 53)) 33 #[.int .i64 0, .int .i64 0, .int .i64 0, .int .i64 0, .slice none 0 0]).alloc (.cells #[.int .i64 0, .int .i64 0, .int .i64 0, .int .i64 0, .slice none 0 0] 33); simpa using this, by have := Box.new ((w.alloc (.cells #[.int .i64 fp, .int .i64 fa, .int .i64 fw, .int .i64 lg, .slice ba nb bk] 53)).alloc (.cells #[.int .i64 0, .int .i64 0, .int .i64 0, .int .i64 0, .slice none 0 0] 33)) 33 #[.int .i64 0, .int .i64 0, .int .i64 0, .int .i64 0, .slice none 0 0]; simpa using this⟩
  go_enter Tryz.func21, Tryz.ntmps21
  go_upto_region 2 with fail
  generalize (((w.alloc (.cells #[.int .i64 fp, .int .i64 fa, .int .i64 fw, .int .i64 lg, .slice ba nb bk] 53)).alloc (.cells #[.int .i64 0, .int .i64 0, .int .i64 0, .int .i64 0, .slice none 0 0] 33)).alloc (.cells #[.int .i64 0, .int .i64 0, .int .i64 0, .int .i64 0, .slice none 0 0] 33)) = V0 at S0 ⊢
  have t0 : V0.cell? ⟨w.heap.size, 0, none⟩ = some (.int .i64 fp) := S0.out.2.1.cell 0
  have t1 : V0.cell? ⟨w.heap.size, 1, none⟩ = some (.int .i64 fa) := S0.out.2.1.cell 1
  have t2 : V0.cell? ⟨w.heap.size, 2, none⟩ = some (.int .i64 fw) := S0.out.2.1.cell 2
  have t3 : V0.cell? ⟨w.heap.size, 3, none⟩ = some (.int .i64 lg) := S0.out.2.1.cell 3
  have t4 : V0.cell? ⟨w.heap.size, 4, none⟩ = some (.slice ba nb bk) := S0.out.2.1.cell 4
  go_wp2_with fail
  clear t0 t1 t2 t3 t4
  refine (toSpot38 fp fa fw V0).mono ?_
  rintro e w1 ⟨rfl, hb1⟩
  have S1 : Hid (Below w.heap.size w w1 ∧ Box w1 w.heap.size 53 #[.int .i64 fp, .int .i64 fa, .int .i64 fw, .int .i64 lg, .slice ba nb bk] ∧ Box w1 (w.heap.size + 1) 33 #[.int .i64 0, .int .i64 0, .int .i64 0, .int .i64 0, .slice none 0 0] ∧ Box w1 (w.heap.size + 1 + 1) 33 #[.int .i64 0, .int .i64 0, .int .i64 0, .int .i64 0, .slice none 0 0]) := ⟨S0.out.1.trans (hb1.mono S0.out.1.size), S0.out.2.1.mono hb1 (Nat.le_refl _), S0.out.2.2.1.mono hb1 (Nat.le_refl _), S0.out.2.2.2.mono hb1 (Nat.le_refl _)⟩
  clear hb1 S0
  have e0 : w.heap.size ≠ w.heap.size + 1 + 1 := by omega
  have e1 : w.heap.size + 1 ≠ w.heap.size + 1 + 1 := by omega
  have S2 : Hid (Below w.heap.size w ((((w1.setCell ⟨w.heap.size + 1 + 1, 0, none⟩ (.int .i64 fp)).setCell ⟨w.heap.size + 1 + 1, 1, none⟩ (.int .i64 fa)).setCell ⟨w.heap.size + 1 + 1, 2, none⟩ (.int .i64 fw)).setCell ⟨w.heap.size + 1 + 1, 3, none⟩ (.int .i64 lg)) ∧ Box ((((w1.setCell ⟨w.heap.size + 1 + 1, 0, none⟩ (.int .i64 fp)).setCell ⟨w.heap.size + 1 + 1, 1, none⟩ (.int .i64 fa)).setCell ⟨w.heap.size + 1 + 1, 2, none⟩ (.int .i64 fw)).setCell ⟨w.heap.size + 1 + 1, 3, none⟩ (.int .i64 lg)) w.heap.size 53 #[.int .i64 fp, .int .i64 fa, .int .i64 fw, .int .i64 lg, .slice ba nb bk] ∧ Box ((((w1.setCell ⟨w.heap.size + 1 + 1, 0, none⟩ (.int .i64 fp)).setCell ⟨w.heap.size + 1 + 1, 1, none⟩ (.int .i64 fa)).setCell ⟨w.heap.size + 1 + 1, 2, none⟩ (.int .i64 fw)).setCell ⟨w.heap.size + 1 + 1, 3, none⟩ (.int .i64 lg)) (w.heap.size + 1) 33 #[.int .i64 0, .int .i64 0, .int .i64 0, .int .i64 0, .slice none 0 0] ∧ Box ((((w1.setCell ⟨w.heap.size + 1 + 1, 0, none⟩ (.int .i64 fp)).setCell ⟨w.heap.size + 1 + 1, 1, none⟩ (.int .i64 fa)).setCell ⟨w.heap.size + 1 + 1, 2, none⟩ (.int .i64 fw)).setCell ⟨w.heap.size + 1 + 1, 3, none⟩ (.int .i64 lg)) (w.heap.size + 1 + 1) 33 #[.int .i64 fp, .int .i64 fa, .int .i64 fw, .int .i64 lg, .slice none 0 0]) := ⟨((((S1.out.1.setCell (Nat.le_add_right _ 2) _).setCell (Nat.le_add_right _ 2) _).setCell (Nat.le_add_right _ 2) _).setCell (Nat.le_add_right _ 2) _), ((((S1.out.2.1.other e0 _).other e0 _).other e0 _).other e0 _), ((((S1.out.2.2.1.other e1 _).other e1 _).other e1 _).other e1 _), by
    have h9 := (((S1.out.2.2.2.set 0 (.int .i64 fp)).set 1 (.int .i64 fa)).set 2 (.int .i64 fw)).set 3 (.int .i64 lg)
    exact h9⟩
  have t3 : w1.cell? ⟨w.heap.size, 3, none⟩ = some (.int .i64 lg) := S1.out.2.1.cell 3
  have t4 : w1.cell? ⟨w.heap.size, 4, none⟩ = some (.slice ba nb bk) := S1.out.2.1.cell 4
  have z0 : w1.cell? ⟨w.heap.size + 1 + 1, 0, none⟩ = some (.int .i64 0) := S1.out.2.2.2.cell 0
  have z1 : w1.cell? ⟨w.heap.size + 1 + 1, 1, none⟩ = some (.int .i64 0) := S1.out.2.2.2.cell 1
  have z2 : w1.cell? ⟨w.heap.size + 1 + 1, 2, none⟩ = some (.int .i64 0) := S1.out.2.2.2.cell 2
  have z3 : w1.cell? ⟨w.heap.size + 1 + 1, 3, none⟩ = some (.int .i64 0) := S1.out.2.2.2.cell 3
  have z4 : w1.cell? ⟨w.heap.size + 1 + 1, 4, none⟩ = some (.slice none 0 0) := S1.out.2.2.2.cell 4
  have q0 := S1.out.2.2.2.free 0
  have q1 := S1.out.2.2.2.free 1
  have q2 := S1.out.2.2.2.free 2
  have q3 := S1.out.2.2.2.free 3
  have q4 := S1.out.2.2.2.free 4
  go_wp2_with fail
  clear t3 t4 z0 z1 z2 z3 z4 q0 q1 q2 q3 q4 S1
  generalize ((((w1.setCell ⟨w.heap.size + 1 + 1, 0, none⟩ (.int .i64 fp)).setCell ⟨w.heap.size + 1 + 1, 1, none⟩ (.int .i64 fa)).setCell ⟨w.heap.size + 1 + 1, 2, none⟩ (.int .i64 fw)).setCell ⟨w.heap.size + 1 + 1, 3, none⟩ (.int .i64 lg)) = V2 at S2 ⊢
  refine (toStepS39 ba nb bk B V2 hn (hB.mono (Nat.le_refl _) S2.out.1 (Nat.le_refl _))).mono ?_
  rintro e w3 ⟨rfl, hN3, hb3⟩
  have S3 : Hid (Below w.heap.size w w3 ∧ Box w3 w.heap.size 53 #[.int .i64 fp, .int .i64 fa, .int .i64 fw, .int .i64 lg, .slice ba nb bk] ∧ Box w3 (w.heap.size + 1) 33 #[.int .i64 0, .int .i64 0, .int .i64 0, .int .i64 0, .slice none 0 0] ∧ Box w3 (w.heap.size + 1 + 1) 33 #[.int .i64 fp, .int .i64 fa, .int .i64 fw, .int .i64 lg, .slice none 0 0]) := ⟨S2.out.1.trans (hb3.mono S2.out.1.size), S2.out.2.1.mono hb3 (Nat.le_refl _), S2.out.2.2.1.mono hb3 (Nat.le_refl _), S2.out.2.2.2.mono hb3 (Nat.le_refl _)⟩
  have HN : Hid (NsAt 2 V2.heap.size w3 (some ⟨V2.heap.size, 0, none⟩) nb B ∧ w.heap.size + 1 + 1 < V2.heap.size) := ⟨hN3, S2.out.2.2.2.lt⟩
  clear hb3 hN3 S2
  generalize V2.heap.size = bn at HN ⊢
  have S4 : Hid ((Below w.heap.size w (w3.setCell ⟨w.heap.size + 1 + 1, 4, none⟩ (.slice (some ⟨bn, 0, none⟩) nb nb)) ∧ Box (w3.setCell ⟨w.heap.size + 1 + 1, 4, none⟩ (.slice (some ⟨bn, 0, none⟩) nb nb)) w.heap.size 53 #[.int .i64 fp, .int .i64 fa, .int .i64 fw, .int .i64 lg, .slice ba nb bk] ∧ Box (w3.setCell ⟨w.heap.size + 1 + 1, 4, none⟩ (.slice (some ⟨bn, 0, none⟩) nb nb)) (w.heap.size + 1) 33 #[.int .i64 0, .int .i64 0, .int .i64 0, .int .i64 0, .slice none 0 0] ∧ Box (w3.setCell ⟨w.heap.size + 1 + 1, 4, none⟩ (.slice (some ⟨bn, 0, none⟩) nb nb)) (w.heap.size + 1 + 1) 33 #[.int .i64 fp, .int .i64 fa, .int .i64 fw, .int .i64 lg, .slice (some ⟨bn, 0, none⟩) nb nb]) ∧ NsAt 2 bn (w3.setCell ⟨w.heap.size + 1 + 1, 4, none⟩ (.slice (some ⟨bn, 0, none⟩) nb nb)) (some ⟨bn, 0, none⟩) nb B) := ⟨⟨S3.out.1.setCell (Nat.le_add_right _ 2) _, S3.out.2.1.other e0 _, S3.out.2.2.1.other e1 _, by
    have h9 := S3.out.2.2.2.set 4 (.slice (some ⟨bn, 0, none⟩) nb nb)
    exact h9⟩, ns_other HN.out.1 HN.out.2⟩
  have z4 : w3.cell? ⟨w.heap.size + 1 + 1, 4, none⟩ = some (.slice none 0 0) := S3.out.2.2.2.cell 4
  have q4 := S3.out.2.2.2.free 4
  have HL : Hid (w.heap.size + 1 + 1 < bn) := HN.out.2
  clear HN S3
  go_upto_region 5 with fail
  clear z4 q4
  generalize (w3.setCell ⟨w.heap.size + 1 + 1, 4, none⟩ (.slice (some ⟨bn, 0, none⟩) nb nb)) = V4 at S4 ⊢
  have z0 : V4.cell? ⟨w.heap.size + 1 + 1, 0, none⟩ = some (.int .i64 fp) := S4.out.1.2.2.2.cell 0
  have z1 : V4.cell? ⟨w.heap.size + 1 + 1, 1, none⟩ = some (.int .i64 fa) := S4.out.1.2.2.2.cell 1
  have z2 : V4.cell? ⟨w.heap.size + 1 + 1, 2, none⟩ = some (.int .i64 fw) := S4.out.1.2.2.2.cell 2
  have z3 : V4.cell? ⟨w.heap.size + 1 + 1, 3, none⟩ = some (.int .i64 lg) := S4.out.1.2.2.2.cell 3
  have z4 : V4.cell? ⟨w.heap.size + 1 + 1, 4, none⟩ = some (.slice (some ⟨bn, 0, none⟩) nb nb) := S4.out.1.2.2.2.cell 4
  have y0 : V4.cell? ⟨w.heap.size + 1, 0, none⟩ = some (.int .i64 0) := S4.out.1.2.2.1.cell 0
  have y1 : V4.cell? ⟨w.heap.size + 1, 1, none⟩ = some (.int .i64 0) := S4.out.1.2.2.1.cell 1
  have y2 : V4.cell? ⟨w.heap.size + 1, 2, none⟩ = some (.int .i64 0) := S4.out.1.2.2.1.cell 2
  have y3 : V4.cell? ⟨w.heap.size + 1, 3, none⟩ = some (.int .i64 0) := S4.out.1.2.2.1.cell 3
  have y4 : V4.cell? ⟨w.heap.size + 1, 4, none⟩ = some (.slice none 0 0) := S4.out.1.2.2.1.cell 4
  have q0 := S4.out.1.2.2.1.free 0
  have q1 := S4.out.1.2.2.1.free 1
  have q2 := S4.out.1.2.2.1.free 2
  have q3 := S4.out.1.2.2.1.free 3
  have q4 := S4.out.1.2.2.1.free 4
  have S5 : Hid ((Below w.heap.size w (((((V4.setCell ⟨w.heap.size + 1, 0, none⟩ (.int .i64 fp)).setCell ⟨w.heap.size + 1, 1, none⟩ (.int .i64 fa)).setCell ⟨w.heap.size + 1, 2, none⟩ (.int .i64 fw)).setCell ⟨w.heap.size + 1, 3, none⟩ (.int .i64 lg)).setCell ⟨w.heap.size + 1, 4, none⟩ (.slice (some ⟨bn, 0, none⟩) nb nb)) ∧ Box (((((V4.setCell ⟨w.heap.size + 1, 0, none⟩ (.int .i64 fp)).setCell ⟨w.heap.size + 1, 1, none⟩ (.int .i64 fa)).setCell ⟨w.heap.size + 1, 2, none⟩ (.int .i64 fw)).setCell ⟨w.heap.size + 1, 3, none⟩ (.int .i64 lg)).setCell ⟨w.heap.size + 1, 4, none⟩ (.slice (some ⟨bn, 0, none⟩) nb nb)) (w.heap.size + 1) 33 #[.int .i64 fp, .int .i64 fa, .int .i64 fw, .int .i64 lg, .slice (some ⟨bn, 0, none⟩) nb nb]) ∧ NsAt 2 bn (((((V4.setCell ⟨w.heap.size + 1, 0, none⟩ (.int .i64 fp)).setCell ⟨w.heap.size + 1, 1, none⟩ (.int .i64 fa)).setCell ⟨w.heap.size + 1, 2, none⟩ (.int .i64 fw)).setCell ⟨w.heap.size + 1, 3, none⟩ (.int .i64 lg)).setCell ⟨w.heap.size + 1, 4, none⟩ (.slice (some ⟨bn, 0, none⟩) nb nb)) (some ⟨bn, 0, none⟩) nb B) := ⟨⟨(((((S4.out.1.1.setCell (Nat.le_add_right _ 1) _).setCell (Nat.le_add_right _ 1) _).setCell (Nat.le_add_right _ 1) _).setCell (Nat.le_add_right _ 1) _).setCell (Nat.le_add_right _ 1) _), by
    have h9 := (((((S4.out.1.2.2.1.set 0 (.int .i64 fp)).set 1 (.int .i64 fa)).set 2 (.int .i64 fw)).set 3 (.int .i64 lg)).set 4 (.slice (some ⟨bn, 0, none⟩) nb nb))
    exact h9⟩, ns_other (ns_other (ns_other (ns_other (ns_other S4.out.2 (by have := HL.out; omega)) (by have := HL.out; omega)) (by have := HL.out; omega)) (by have := HL.out; omega)) (by have := HL.out; omega)⟩
  go_wp2_with fail
  clear z0 z1 z2 z3 z4 y0 y1 y2 y3 y4 q0 q1 q2 q3 q4 S4
  generalize (((((V4.setCell ⟨w.heap.size + 1, 0, none⟩ (.int .i64 fp)).setCell ⟨w.heap.size + 1, 1, none⟩ (.int .i64 fa)).setCell ⟨w.heap.size + 1, 2, none⟩ (.int .i64 fw)).setCell ⟨w.heap.size + 1, 3, none⟩ (.int .i64 lg)).setCell ⟨w.heap.size + 1, 4, none⟩ (.slice (some ⟨bn, 0, none⟩) nb nb)) = W9 at S5 ⊢
  have z0 : W9.cell? ⟨w.heap.size + 1, 0, none⟩ = some (.int .i64 fp) := S5.out.1.2.cell 0
  have z1 : W9.cell? ⟨w.heap.size + 1, 1, none⟩ = some (.int .i64 fa) := S5.out.1.2.cell 1
  have z2 : W9.cell? ⟨w.heap.size + 1, 2, none⟩ = some (.int .i64 fw) := S5.out.1.2.cell 2
  have z3 : W9.cell? ⟨w.heap.size + 1, 3, none⟩ = some (.int .i64 lg) := S5.out.1.2.cell 3
  have z4 : W9.cell? ⟨w.heap.size + 1, 4, none⟩ = some (.slice (some ⟨bn, 0, none⟩) nb nb) := S5.out.1.2.cell 4
  exact bodyPost_ret (v := .agg #[.int .i64 fp, .int .i64 fa, .int .i64 fw, .int .i64 lg, .slice (some ⟨bn, 0, none⟩) nb nb]) (by simp [results, Tryz.results21, go_sem, z0, z1, z2, z3, z4]) rfl ⟨bn, rfl, S5.out.2.keep (by have := HL.out; omega) (Nat.le_refl _) fun _ _ _ => rfl, S5.out.1.1⟩
set_option maxHeartbeats 4000000 in
theorem eqTrain18 (fp fa fw lg : Int) (nb : Nat) (B : Nat → Nat → Int) (ba ba' : Option Addr) (bk bk' : Nat) (w : World) (hn : nb ≤ 1048576) (hB : NsAt 2 0 w ba nb B) (hB' : NsAt 2 0 w ba' nb B) :
    Calls Tryz.prog 23 #[.agg #[.int .i64 fp, .int .i64 fa, .int .i64 fw, .int .i64 lg, .slice ba nb bk], .agg #[.int .i64 fp, .int .i64 fa, .int .i64 fw, .int .i64 lg, .slice ba' nb bk']] w fun e w' => e = .returned (.bool true) ∧ Below w.heap.size w w' := by
  have S0 : Hid (Below w.heap.size w ((w.alloc (.cells #[.int .i64 fp, .int .i64 fa, .int .i64 fw, .int .i64 lg, .slice ba nb bk] 33)).alloc (.cells #[.int .i64 fp, .int .i64 fa, .int .i64 fw, .int .i64 lg, .slice ba' nb bk'] 33)) ∧ Box ((w.alloc (.cells #[.int .i64 fp, .int .i64 fa, .int .i64 fw, .int .i64 lg, .slice ba nb bk] 33)).alloc (.cells #[.int .i64 fp, .int .i64 fa, .int .i64 fw, .int .i64 lg, .slice ba' nb bk'] 33)) w.heap.size 33 #[.int .i64 fp, .int .i64 fa, .int .i64 fw, .int .i64 lg, .slice ba nb bk] ∧ Box ((w.alloc (.cells #[.int .i64 fp, .int .i64 fa, .int .i64 fw, .int .i64 lg, .slice ba nb bk] 33)).alloc (.cells #[.int .i64 fp, .int .i64 fa, .int .i64 fw, .int .i64 lg, .slice ba' nb bk'] 33)) (w.heap.size + 1) 33 #[.int .i64 fp, .int .i64 fa, .int .i64 fw, .int .i64 lg, .slice ba' nb bk']) := ⟨bel2 _ _ _, (Box.new _ _ _).alloc _, by have := Box.new (w.alloc (.cells #[.int .i64 fp, .int .i64 fa, .int .i64 fw, .int .i64 lg, .slice ba nb bk] 33)) 33 #[.int .i64 fp, .int .i64 fa, .int .i64 fw, .int .i64 lg, .slice ba' nb bk']; simpa using this⟩
  go_enter Tryz.func23, Tryz.ntmps23
  go_upto_region 1 with fail
  generalize ((w.alloc (.cells #[.int .i64 fp, .int .i64 fa, .int .i64 fw, .int .i64 lg, .slice ba nb bk] 33)).alloc (.cells #[.int .i64 fp, .int .i64 fa, .int .i64 fw, .int .i64 lg, .slice ba' nb bk'] 33)) = V0 at S0 ⊢
  have t0 : V0.cell? ⟨w.heap.size, 0, none⟩ = some (.int .i64 fp) := S0.out.2.1.cell 0
  have t1 : V0.cell? ⟨w.heap.size, 1, none⟩ = some (.int .i64 fa) := S0.out.2.1.cell 1
  have t2 : V0.cell? ⟨w.heap.size, 2, none⟩ = some (.int .i64 fw) := S0.out.2.1.cell 2
  have t3 : V0.cell? ⟨w.heap.size, 3, none⟩ = some (.int .i64 lg) := S0.out.2.1.cell 3
  have t4 : V0.cell? ⟨w.heap.size, 4, none⟩ = some (.slice ba nb bk) := S0.out.2.1.cell 4
  have u0 : V0.cell? ⟨w.heap.size + 1, 0, none⟩ = some (.int .i64 fp) := S0.out.2.2.cell 0
  have u1 : V0.cell? ⟨w.heap.size + 1, 1, none⟩ = some (.int .i64 fa) := S0.out.2.2.cell 1
  have u2 : V0.cell? ⟨w.heap.size + 1, 2, none⟩ = some (.int .i64 fw) := S0.out.2.2.cell 2
  have u3 : V0.cell? ⟨w.heap.size + 1, 3, none⟩ = some (.int .i64 lg) := S0.out.2.2.cell 3
  have u4 : V0.cell? ⟨w.heap.size + 1, 4, none⟩ = some (.slice ba' nb bk') := S0.out.2.2.cell 4
  go_wp2_with fail
  clear t0 t1 t2 t3 t4 u0 u1 u2 u3 u4
  refine (eqSpot21 fp fa fw V0).mono ?_
  rintro e w1 ⟨rfl, hb1⟩
  have S1 : Hid (Below w.heap.size w w1 ∧ Box w1 w.heap.size 33 #[.int .i64 fp, .int .i64 fa, .int .i64 fw, .int .i64 lg, .slice ba nb bk] ∧ Box w1 (w.heap.size + 1) 33 #[.int .i64 fp, .int .i64 fa, .int .i64 fw, .int .i64 lg, .slice ba' nb bk']) := ⟨S0.out.1.trans (hb1.mono S0.out.1.size), S0.out.2.1.mono hb1 (Nat.le_refl _), S0.out.2.2.mono hb1 (Nat.le_refl _)⟩
  clear hb1 S0
  have t3 : w1.cell? ⟨w.heap.size, 3, none⟩ = some (.int .i64 lg) := S1.out.2.1.cell 3
  have t4 : w1.cell? ⟨w.heap.size, 4, none⟩ = some (.slice ba nb bk) := S1.out.2.1.cell 4
  have u3 : w1.cell? ⟨w.heap.size + 1, 3, none⟩ = some (.int .i64 lg) := S1.out.2.2.cell 3
  have u4 : w1.cell? ⟨w.heap.size + 1, 4, none⟩ = some (.slice ba' nb bk') := S1.out.2.2.cell 4
  go_wp2_with fail
  refine (eqStepS41 ba ba' nb bk bk' B w1 hn (hB.mono (Nat.le_refl _) S1.out.1 (Nat.le_refl _)) (hB'.mono (Nat.le_refl _) S1.out.1 (Nat.le_refl _))).mono ?_
  rintro e w2 ⟨rfl, hb2⟩
  have HE : Hid (Below w.heap.size w w2) := S1.out.1.trans (hb2.mono S1.out.1.size)
  go_wp2_with fail
  go_ret
  exact ⟨rfl, HE.out⟩
set_option maxHeartbeats 4000000 in
theorem specTrain15 {v : Nv} (pa : Option Addr) (pc : Nat) (ja : Option Addr) (jc : Nat) (fp fa fw lg : Int) (nb : Nat) (B : Nat → Nat → Int) (ba : Option Addr) (bk : Nat) (w : World) (hn : v.n ≤ 1048576) (hm : v.m ≤ 1048576) (hnb : nb ≤ 1048576) (hP : PsAt 0 w pa v.n v.P) (hJ : JsAt 0 w ja v.m v.J) (hps : ∀ i, i < v.n → (v.P i).nm.size ≤ maxLen) (hjs : ∀ i, i < v.m → (v.J i).ne ≤ 1048576 ∧ (v.J i).nm.size ≤ maxLen) (hB : NsAt 2 0 w ba nb B) :
    Calls Tryz.prog 55 #[.agg #[.slice pa v.n pc, .slice ja v.m jc], .agg #[.int .i64 fp, .int .i64 fa, .int .i64 fw, .int .i64 lg, .slice ba nb bk]] w fun e w' => e = .returned (.bool (trainF v fp fa fw lg nb B)) ∧ Below w.heap.size w w' := by
  have H0 : Hid ((∀ i, i < v.n → (v.P i).nm.size ≤ maxLen) ∧ (∀ i, i < v.m → (v.J i).ne ≤ 1048576 ∧ (v.J i).nm.size ≤ maxLen) ∧ PsAt 0 w pa v.n v.P ∧ JsAt 0 w ja v.m v.J ∧ NsAt 2 0 w ba nb B) := ⟨hps, hjs, hP, hJ, hB⟩
  have S0 : Hid (Below w.heap.size w ((w.alloc (.cells #[.slice pa v.n pc, .slice ja v.m jc] 40)).alloc (.cells #[.int .i64 fp, .int .i64 fa, .int .i64 fw, .int .i64 lg, .slice ba nb bk] 33)) ∧ Box ((w.alloc (.cells #[.slice pa v.n pc, .slice ja v.m jc] 40)).alloc (.cells #[.int .i64 fp, .int .i64 fa, .int .i64 fw, .int .i64 lg, .slice ba nb bk] 33)) w.heap.size 40 #[.slice pa v.n pc, .slice ja v.m jc] ∧ Box ((w.alloc (.cells #[.slice pa v.n pc, .slice ja v.m jc] 40)).alloc (.cells #[.int .i64 fp, .int .i64 fa, .int .i64 fw, .int .i64 lg, .slice ba nb bk] 33)) (w.heap.size + 1) 33 #[.int .i64 fp, .int .i64 fa, .int .i64 fw, .int .i64 lg, .slice ba nb bk]) := ⟨bel2 _ _ _, (Box.new _ _ _).alloc _, by have := Box.new (w.alloc (.cells #[.slice pa v.n pc, .slice ja v.m jc] 40)) 33 #[.int .i64 fp, .int .i64 fa, .int .i64 fw, .int .i64 lg, .slice ba nb bk]; simpa using this⟩
  clear hps hjs hP hJ hB
  obtain ⟨R, HR⟩ : ∃ R, Hid (trainF v fp fa fw lg nb B = R) := ⟨_, rfl⟩
  rw [HR.out]
  go_enter Tryz.func55, Tryz.ntmps55
  go_upto_region 1 with fail
  generalize ((w.alloc (.cells #[.slice pa v.n pc, .slice ja v.m jc] 40)).alloc (.cells #[.int .i64 fp, .int .i64 fa, .int .i64 fw, .int .i64 lg, .slice ba nb bk] 33)) = V0 at S0 ⊢
  have n0 : V0.cell? ⟨w.heap.size, 0, none⟩ = some (.slice pa v.n pc) := S0.out.2.1.cell 0
  have n1 : V0.cell? ⟨w.heap.size, 1, none⟩ = some (.slice ja v.m jc) := S0.out.2.1.cell 1
  go_wp2_with fail
  clear n0 n1
  refine (l22ok26 pa v.n pc v.P ja v.m jc v.J V0 hn hm (H0.out.2.2.1.mono (Nat.le_refl _) S0.out.1 (Nat.le_refl _)) (H0.out.2.2.2.1.mono (Nat.le_refl _) S0.out.1 (Nat.le_refl _)) H0.out.1 H0.out.2.1).mono ?_
  rintro e w1 ⟨he, hb1⟩
  have S1 : Hid (Below w.heap.size w w1 ∧ Box w1 w.heap.size 40 #[.slice pa v.n pc, .slice ja v.m jc] ∧ Box w1 (w.heap.size + 1) 33 #[.int .i64 fp, .int .i64 fa, .int .i64 fw, .int .i64 lg, .slice ba nb bk]) := ⟨S0.out.1.trans (hb1.mono S0.out.1.size), S0.out.2.1.mono hb1 (Nat.le_refl _), S0.out.2.2.mono hb1 (Nat.le_refl _)⟩
  clear hb1 S0
  by_cases hz0 : (netF v.n v.P v.m v.J).1 = 0
  · have HK : Hid (v.Ok) := nvOk hz0
    have HTR : Hid (trnB v fp fa fw lg nb B = R) := by show _ = _; rw [← HR.out, trainF, decide_eq_true hz0, Bool.true_and]
    rw [decide_eq_true hz0] at he
    subst he
    clear hz0 HR
    have n0 : w1.cell? ⟨w.heap.size, 0, none⟩ = some (.slice pa v.n pc) := S1.out.2.1.cell 0
    have n1 : w1.cell? ⟨w.heap.size, 1, none⟩ = some (.slice ja v.m jc) := S1.out.2.1.cell 1
    have t0 : w1.cell? ⟨w.heap.size + 1, 0, none⟩ = some (.int .i64 fp) := S1.out.2.2.cell 0
    have t1 : w1.cell? ⟨w.heap.size + 1, 1, none⟩ = some (.int .i64 fa) := S1.out.2.2.cell 1
    have t2 : w1.cell? ⟨w.heap.size + 1, 2, none⟩ = some (.int .i64 fw) := S1.out.2.2.cell 2
    have t3 : w1.cell? ⟨w.heap.size + 1, 3, none⟩ = some (.int .i64 lg) := S1.out.2.2.cell 3
    have t4 : w1.cell? ⟨w.heap.size + 1, 4, none⟩ = some (.slice ba nb bk) := S1.out.2.2.cell 4
    go_wp2_with fail
    clear n0 n1 t0 t1 t2 t3 t4
    refine (train37 HK.out pa pc ja jc fp fa fw lg nb B ba bk w1 hnb (H0.out.2.2.1.mono (Nat.le_refl _) S1.out.1 (Nat.le_refl _)) (H0.out.2.2.2.1.mono (Nat.le_refl _) S1.out.1 (Nat.le_refl _)) (H0.out.2.2.2.2.mono (Nat.le_refl _) S1.out.1 (Nat.le_refl _))).mono ?_
    rw [HTR.out]
    rintro e w2 ⟨rfl, hb2⟩
    have HE : Hid (Below w.heap.size w w2) := S1.out.1.trans (hb2.mono S1.out.1.size)
    go_wp2_with fail
    go_ret
    exact ⟨rfl, HE.out⟩
  · have HT : Hid (R = false) := HR.out.symm.trans (by rw [trainF, decide_eq_false hz0]; rfl)
    rw [decide_eq_false hz0] at he
    subst he
    clear hz0
    go_wp2_with fail
    go_ret
    exact ⟨by rw [HT.out]; rfl, S1.out.1⟩
set_option maxHeartbeats 4000000 in
theorem implTrain17 {v : Nv} (pa : Option Addr) (pc : Nat) (ja : Option Addr) (jc : Nat) (fp fa fw lg : Int) (nb : Nat) (B : Nat → Nat → Int) (ba : Option Addr) (bk : Nat) (w : World) (hn : v.n ≤ 1048576) (hm : v.m ≤ 1048576) (hnb : nb ≤ 1048576) (hpc : v.n ≤ pc) (hpm : pc ≤ maxLen) (hjc : v.m ≤ jc) (hjm : jc ≤ maxLen) (hP : PsAt 0 w pa v.n v.P) (hJ : JsAt 0 w ja v.m v.J) (hps : ∀ i, i < v.n → (v.P i).nm.size ≤ maxLen) (hjs : ∀ i, i < v.m → (v.J i).ne ≤ 1048576 ∧ (v.J i).nm.size ≤ maxLen) (hB : NsAt 2 0 w ba nb B) :
    Calls Tryz.prog 67 #[.agg #[.slice pa v.n pc, .slice ja v.m jc], .agg #[.int .i64 fp, .int .i64 fa, .int .i64 fw, .int .i64 lg, .slice ba nb bk]] w fun e w' => e = .returned (.bool (trainF v fp fa fw lg nb B)) ∧ Below w.heap.size w w' := by
  have S0 : Hid (Below w.heap.size w ((w.alloc (.cells #[.slice pa v.n pc, .slice ja v.m jc] 40)).alloc (.cells #[.int .i64 fp, .int .i64 fa, .int .i64 fw, .int .i64 lg, .slice ba nb bk] 33)) ∧ Box ((w.alloc (.cells #[.slice pa v.n pc, .slice ja v.m jc] 40)).alloc (.cells #[.int .i64 fp, .int .i64 fa, .int .i64 fw, .int .i64 lg, .slice ba nb bk] 33)) w.heap.size 40 #[.slice pa v.n pc, .slice ja v.m jc] ∧ Box ((w.alloc (.cells #[.slice pa v.n pc, .slice ja v.m jc] 40)).alloc (.cells #[.int .i64 fp, .int .i64 fa, .int .i64 fw, .int .i64 lg, .slice ba nb bk] 33)) (w.heap.size + 1) 33 #[.int .i64 fp, .int .i64 fa, .int .i64 fw, .int .i64 lg, .slice ba nb bk]) := ⟨bel2 _ _ _, (Box.new _ _ _).alloc _, by have := Box.new (w.alloc (.cells #[.slice pa v.n pc, .slice ja v.m jc] 40)) 33 #[.int .i64 fp, .int .i64 fa, .int .i64 fw, .int .i64 lg, .slice ba nb bk]; simpa using this⟩
  have HC : Hid (∀ W, Below w.heap.size w W → Calls Tryz.prog 102 #[.agg #[.slice pa v.n pc, .slice ja v.m jc], .agg #[.int .i64 fp, .int .i64 fa, .int .i64 fw, .int .i64 lg, .slice ba nb bk]] W fun e w' => OnR W pa pc ja jc v fp fa fw lg nb ba bk (trainF v fp fa fw lg nb B) e w') := fun W hb => trainOn40 pa pc ja jc fp fa fw lg nb B ba bk W hn hm hnb hpc hpm hjc hjm (hP.mono (Nat.le_refl _) hb (Nat.le_refl _)) (hJ.mono (Nat.le_refl _) hb (Nat.le_refl _)) hps hjs (hB.mono (Nat.le_refl _) hb (Nat.le_refl _))
  clear hps hjs hP hJ hB
  generalize trainF v fp fa fw lg nb B = R at *
  go_enter Tryz.func67, Tryz.ntmps67
  go_upto_region 1 with fail
  generalize ((w.alloc (.cells #[.slice pa v.n pc, .slice ja v.m jc] 40)).alloc (.cells #[.int .i64 fp, .int .i64 fa, .int .i64 fw, .int .i64 lg, .slice ba nb bk] 33)) = V0 at S0 ⊢
  have n0 : V0.cell? ⟨w.heap.size, 0, none⟩ = some (.slice pa v.n pc) := S0.out.2.1.cell 0
  have n1 : V0.cell? ⟨w.heap.size, 1, none⟩ = some (.slice ja v.m jc) := S0.out.2.1.cell 1
  have t0 : V0.cell? ⟨w.heap.size + 1, 0, none⟩ = some (.int .i64 fp) := S0.out.2.2.cell 0
  have t1 : V0.cell? ⟨w.heap.size + 1, 1, none⟩ = some (.int .i64 fa) := S0.out.2.2.cell 1
  have t2 : V0.cell? ⟨w.heap.size + 1, 2, none⟩ = some (.int .i64 fw) := S0.out.2.2.cell 2
  have t3 : V0.cell? ⟨w.heap.size + 1, 3, none⟩ = some (.int .i64 lg) := S0.out.2.2.cell 3
  have t4 : V0.cell? ⟨w.heap.size + 1, 4, none⟩ = some (.slice ba nb bk) := S0.out.2.2.cell 4
  go_wp2_with fail
  clear n0 n1 t0 t1 t2 t3 t4
  refine (HC.out V0 S0.out.1).mono ?_
  rintro e w1 ⟨kp, y0, y1, y2, y3, ya, yn, yc, rfl, hb1, _⟩
  have HE : Hid (Below w.heap.size w w1) := S0.out.1.trans (hb1.mono S0.out.1.size)
  clear hb1 HC S0
  go_wp2_with fail
  go_ret
  exact ⟨rfl, HE.out.alloc HE.out.size _⟩

end Go.Proofs.YtjhmaofjmalglaaGreat
