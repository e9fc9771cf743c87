import Derived.Test.YtjhmaofjmalglaaGreatZbk
namespace Go.Proofs.YtjhmaofjmalglaaGreat
open Go.RowKit Go.Lib
def TrX (w : World) (fp fa fw lg : Int) (nb : Nat) (B : Nat → Nat → Int) (e : Ending) (w' : World) : Prop := ∃ bn : Nat, e = .returned (.agg #[.int .i64 fp, .int .i64 fa, .int .i64 fw, .int .i64 lg, .slice (some ⟨bn, 0, none⟩) nb nb]) ∧ VOwn w.heap.size 74 2 w' (.slice (some ⟨bn, 0, none⟩) nb nb) nb (intF B) ∧ Below w.heap.size w w'
theorem NsTo.own {w : World} {B n : Nat} {F : Nat → Nat → Int} (h : NsTo w B n n F) (hn : n ≤ maxLen) : VOwn B 74 2 w (.slice (some ⟨B, 0, none⟩) n n) n (intF F) := by
 obtain ⟨f, ⟨cur, h1, h2, h3⟩, hf⟩ := h
 refine .inr ⟨B, n, cur, rfl, Nat.le_refl _, h1, Nat.le_refl _, hn, h2, fun i hi j hj => ?_⟩
 have hk : i * 2 + j < n * 2 := by omega
 rw [h3 _ hk]
 rcases (show j = 0 ∨ j = 1 by omega) with rfl | rfl
 ·
  rw [Nat.add_zero, (hf i hi).1]
 ·
  rw [(hf i hi).2]
set_option maxHeartbeats 1000000 in
theorem toStepS29x (a : Option Addr) (n cap : Nat) (E : Nat → Nat → Int) (w : World) (hn : n ≤ 1048576) (hE : NsAt 2 0 w a n E) :
  Calls Tryz.prog 59 #[.slice a n cap] w fun e w' => e = .returned (.slice (some ⟨w.heap.size, 0, none⟩) n n) ∧ VOwn w.heap.size 74 2 w' (.slice (some ⟨w.heap.size, 0, none⟩) n n) n (intF E) ∧ Below w.heap.size w w' := by
 have hmk := make_rows (P := Tryz.prog) 31 74 _ 16 2 Tryz.underlying31 info114 n (by omega) (by omega)
 have hf0 : NsTo (w.alloc (.cells (mk0 (.agg #[.int .i64 0, .int .i64 0]) (n * 2)) 74)) w.heap.size n 0 E := by
  obtain ⟨f0, hf0⟩ := row_mk0 w (.agg #[.int .i64 0, .int .i64 0]) (n * 2) 74
  exact ⟨f0, hf0, fun j hj => absurd hj (Nat.not_lt_zero _)⟩
 go_enter Tryz.func59, Tryz.ntmps59
 go_wp2_with fail
 go_loopw [4] (fun i wr => ∃ (k : Nat), k ≤ n ∧ i = .int .i64 k ∧ NsTo wr w.heap.size n k E ∧ Below w.heap.size w wr) (fun i _ => n - (intOf i).toNat)
 case atStart => exact ⟨0, Nat.zero_le _, rfl, hf0, bel1 _ _⟩
 case round =>
  obtain ⟨k, hk, rfl, hto, hbel⟩ := hrel
  clear hf0 hmk
  by_cases hlt : k < n
  ·
   obtain ⟨b, off, rfl, _, hb, hc⟩ := (hE.mono nr hbel nr) (by omega)
   have c0 : wr.cell? ⟨b, off + k * 2, none⟩ = some (.int .i64 (E k 0)) := hc k hlt 0 (by omega)
   have c1 : wr.cell? ⟨b, off + k * 2 + 1, none⟩ = some (.int .i64 (E k 1)) := hc k hlt 1 (by omega)
   clear hc
   go_wp2_with fail
   refine (toStep65 (E k 0) (E k 1) _).mono ?_
   rintro e w1 ⟨rfl, hb1⟩
   have hto1 : NsTo w1 w.heap.size n k E := by
    obtain ⟨f, hr, hf⟩ := hto
    exact ⟨f, rowBel hr hb1 hr.lt, hf⟩
   have hbel1 := hbel.trans (hb1.mono hbel.size)
   have hR := hto1.step
   obtain ⟨f, hr1, _⟩ := hto1
   have d0 := hr1.cell (i := k * 2) (by omega)
   have d1 := hr1.cell (i := k * 2 + 1) (by omega)
   have e0 := hr1.frozen (k * 2)
   have e1 := hr1.frozen (k * 2 + 1)
   clear c0 c1 hto hr1
   go_wp2_with fail
   go_roundw
   case rel => exact ⟨k + 1, by omega, by go_num, hR, (hbel1.setCell nr _).setCell nr _⟩
   case measure => simp [intOf]; omega
  ·
   obtain rfl : k = n := by omega
   go_wp2
   go_ret
   exact ⟨rfl, hto.own (by simp only [maxLen]; omega), hbel⟩
set_option maxHeartbeats 4000000 in
theorem toTrain9x (fp fa fw lg : Int) (nb : Nat) (B : Nat → Nat → Int) (ba : Option Addr) (bk : Nat) (w : World) (hn : nb ≤ 1048576) (hB : NsAt 2 0 w ba nb B) :
  Calls Tryz.prog 21 #[.agg #[.int .i64 fp, .int .i64 fa, .int .i64 fw, .int .i64 lg, .slice ba nb bk]] w fun e w' => TrX w fp fa fw lg nb B e w' := by
 have S0 : Hid (Below w.heap.size w (((w.alloc (.cells #[.int .i64 fp, .int .i64 fa, .int .i64 fw, .int .i64 lg, .slice ba nb bk] 53)).alloc (.cells #[.int .i64 0, .int .i64 0, .int .i64 0, .int .i64 0, .slice none 0 0] 33)).alloc (.cells #[.int .i64 0, .int .i64 0, .int .i64 0, .int .i64 0, .slice none 0 0] 33)) ∧ Box (((w.alloc (.cells #[.int .i64 fp, .int .i64 fa, .int .i64 fw, .int .i64 lg, .slice ba nb bk] 53)).alloc (.cells #[.int .i64 0, .int .i64 0, .int .i64 0, .int .i64 0, .slice none 0 0] 33)).alloc (.cells #[.int .i64 0, .int .i64 0, .int .i64 0, .int .i64 0, .slice none 0 0] 33)) w.heap.size 53 #[.int .i64 fp, .int .i64 fa, .int .i64 fw, .int .i64 lg, .slice ba nb bk] ∧ Box (((w.alloc (.cells #[.int .i64 fp, .int .i64 fa, .int .i64 fw, .int .i64 lg, .slice ba nb bk] 53)).alloc (.cells #[.int .i64 0, .int .i64 0, .int .i64 0, .int .i64 0, .slice none 0 0] 33)).alloc (.cells #[.int .i64 0, .int .i64 0, .int .i64 0, .int .i64 0, .slice none 0 0] 33)) (w.heap.size + 1) 33 #[.int .i64 0, .int .i64 0, .int .i64 0, .int .i64 0, .slice none 0 0] ∧ Box (((w.alloc (.cells #[.int .i64 fp, .int .i64 fa, .int .i64 fw, .int .i64 lg, .slice ba nb bk] 53)).alloc (.cells #[.int .i64 0, .int .i64 0, .int .i64 0, .int .i64 0, .slice none 0 0] 33)).alloc (.cells #[.int .i64 0, .int .i64 0, .int .i64 0, .int .i64 0, .slice none 0 0] 33)) (w.heap.size + 1 + 1) 33 #[.int .i64 0, .int .i64 0, .int .i64 0, .int .i64 0, .slice none 0 0]) := ⟨((Below.refl _ _).alloc nr _ |>.alloc (by simp) _ |>.alloc (by simp; omega) _), ((Box.new _ _ _).alloc _).alloc _, by have := (Box.new (w.alloc (.cells #[.int .i64 fp, .int .i64 fa, .int .i64 fw, .int .i64 lg, .slice ba nb bk] 53)) 33 #[.int .i64 0, .int .i64 0, .int .i64 0, .int .i64 0, .slice none 0 0]).alloc (.cells #[.int .i64 0, .int .i64 0, .int .i64 0, .int .i64 0, .slice none 0 0] 33); simpa using this, by have := Box.new ((w.alloc (.cells #[.int .i64 fp, .int .i64 fa, .int .i64 fw, .int .i64 lg, .slice ba nb bk] 53)).alloc (.cells #[.int .i64 0, .int .i64 0, .int .i64 0, .int .i64 0, .slice none 0 0] 33)) 33 #[.int .i64 0, .int .i64 0, .int .i64 0, .int .i64 0, .slice none 0 0]; simpa using this⟩
 go_enter Tryz.func21, Tryz.ntmps21
 go_upto_region 2 with fail
 generalize (((w.alloc (.cells #[.int .i64 fp, .int .i64 fa, .int .i64 fw, .int .i64 lg, .slice ba nb bk] 53)).alloc (.cells #[.int .i64 0, .int .i64 0, .int .i64 0, .int .i64 0, .slice none 0 0] 33)).alloc (.cells #[.int .i64 0, .int .i64 0, .int .i64 0, .int .i64 0, .slice none 0 0] 33)) = V0 at S0 ⊢
 have t0 := S0.out.2.1.cel 0
 have t1 := S0.out.2.1.cel 1
 have t2 := S0.out.2.1.cel 2
 have t3 := S0.out.2.1.cel 3
 have t4 := S0.out.2.1.cel 4
 go_wp2_with fail
 clear t0 t1 t2 t3 t4
 refine (toSpot38 fp fa fw V0).mono ?_
 rintro e w1 ⟨rfl, hb1⟩
 have S1 : Hid (Below w.heap.size w w1 ∧ Box w1 w.heap.size 53 #[.int .i64 fp, .int .i64 fa, .int .i64 fw, .int .i64 lg, .slice ba nb bk] ∧ Box w1 (w.heap.size + 1) 33 #[.int .i64 0, .int .i64 0, .int .i64 0, .int .i64 0, .slice none 0 0] ∧ Box w1 (w.heap.size + 1 + 1) 33 #[.int .i64 0, .int .i64 0, .int .i64 0, .int .i64 0, .slice none 0 0]) := ⟨S0.out.1.trans (hb1.mono S0.out.1.size), S0.out.2.1.mono hb1 nr, S0.out.2.2.1.mono hb1 nr, S0.out.2.2.2.mono hb1 nr⟩
 clear hb1 S0
 have e0 : w.heap.size ≠ w.heap.size + 1 + 1 := by omega
 have e1 : w.heap.size + 1 ≠ w.heap.size + 1 + 1 := by omega
 have S2 : Hid (Below w.heap.size w ((((w1.setCell ⟨w.heap.size + 1 + 1, 0, none⟩ (.int .i64 fp)).setCell ⟨w.heap.size + 1 + 1, 1, none⟩ (.int .i64 fa)).setCell ⟨w.heap.size + 1 + 1, 2, none⟩ (.int .i64 fw)).setCell ⟨w.heap.size + 1 + 1, 3, none⟩ (.int .i64 lg)) ∧ Box ((((w1.setCell ⟨w.heap.size + 1 + 1, 0, none⟩ (.int .i64 fp)).setCell ⟨w.heap.size + 1 + 1, 1, none⟩ (.int .i64 fa)).setCell ⟨w.heap.size + 1 + 1, 2, none⟩ (.int .i64 fw)).setCell ⟨w.heap.size + 1 + 1, 3, none⟩ (.int .i64 lg)) w.heap.size 53 #[.int .i64 fp, .int .i64 fa, .int .i64 fw, .int .i64 lg, .slice ba nb bk] ∧ Box ((((w1.setCell ⟨w.heap.size + 1 + 1, 0, none⟩ (.int .i64 fp)).setCell ⟨w.heap.size + 1 + 1, 1, none⟩ (.int .i64 fa)).setCell ⟨w.heap.size + 1 + 1, 2, none⟩ (.int .i64 fw)).setCell ⟨w.heap.size + 1 + 1, 3, none⟩ (.int .i64 lg)) (w.heap.size + 1) 33 #[.int .i64 0, .int .i64 0, .int .i64 0, .int .i64 0, .slice none 0 0] ∧ Box ((((w1.setCell ⟨w.heap.size + 1 + 1, 0, none⟩ (.int .i64 fp)).setCell ⟨w.heap.size + 1 + 1, 1, none⟩ (.int .i64 fa)).setCell ⟨w.heap.size + 1 + 1, 2, none⟩ (.int .i64 fw)).setCell ⟨w.heap.size + 1 + 1, 3, none⟩ (.int .i64 lg)) (w.heap.size + 1 + 1) 33 #[.int .i64 fp, .int .i64 fa, .int .i64 fw, .int .i64 lg, .slice none 0 0]) := ⟨((((S1.out.1.setCell (Nat.le_add_right _ 2) _).setCell (Nat.le_add_right _ 2) _).setCell (Nat.le_add_right _ 2) _).setCell (Nat.le_add_right _ 2) _), ((((S1.out.2.1.other e0 _).other e0 _).other e0 _).other e0 _), ((((S1.out.2.2.1.other e1 _).other e1 _).other e1 _).other e1 _), by
  have h9 := (((S1.out.2.2.2.set 0 (.int .i64 fp)).set 1 (.int .i64 fa)).set 2 (.int .i64 fw)).set 3 (.int .i64 lg)
  exact h9⟩
 have t3 := S1.out.2.1.cel 3
 have t4 := S1.out.2.1.cel 4
 have z0 := S1.out.2.2.2.cel 0
 have z1 := S1.out.2.2.2.cel 1
 have z2 := S1.out.2.2.2.cel 2
 have z3 := S1.out.2.2.2.cel 3
 have z4 := S1.out.2.2.2.cel 4
 have q0 := S1.out.2.2.2.free 0
 have q1 := S1.out.2.2.2.free 1
 have q2 := S1.out.2.2.2.free 2
 have q3 := S1.out.2.2.2.free 3
 have q4 := S1.out.2.2.2.free 4
 go_wp2_with fail
 clear t3 t4 z0 z1 z2 z3 z4 q0 q1 q2 q3 q4 S1
 generalize ((((w1.setCell ⟨w.heap.size + 1 + 1, 0, none⟩ (.int .i64 fp)).setCell ⟨w.heap.size + 1 + 1, 1, none⟩ (.int .i64 fa)).setCell ⟨w.heap.size + 1 + 1, 2, none⟩ (.int .i64 fw)).setCell ⟨w.heap.size + 1 + 1, 3, none⟩ (.int .i64 lg)) = V2 at S2 ⊢
 refine (toStepS29x ba nb bk B V2 hn (hB.mono nr S2.out.1 nr)).mono ?_
 rintro e w3 ⟨rfl, hN3, hb3⟩
 have S3 : Hid (Below w.heap.size w w3 ∧ Box w3 w.heap.size 53 #[.int .i64 fp, .int .i64 fa, .int .i64 fw, .int .i64 lg, .slice ba nb bk] ∧ Box w3 (w.heap.size + 1) 33 #[.int .i64 0, .int .i64 0, .int .i64 0, .int .i64 0, .slice none 0 0] ∧ Box w3 (w.heap.size + 1 + 1) 33 #[.int .i64 fp, .int .i64 fa, .int .i64 fw, .int .i64 lg, .slice none 0 0]) := ⟨S2.out.1.trans (hb3.mono S2.out.1.size), S2.out.2.1.mono hb3 nr, S2.out.2.2.1.mono hb3 nr, S2.out.2.2.2.mono hb3 nr⟩
 have HN : Hid (VOwn V2.heap.size 74 2 w3 (.slice (some ⟨V2.heap.size, 0, none⟩) nb nb) nb (intF B) ∧ w.heap.size + 1 + 1 < V2.heap.size) := ⟨hN3, S2.out.2.2.2.lt⟩
 clear hb3 hN3 S2
 generalize V2.heap.size = bn at HN ⊢
 have S4 : Hid ((Below w.heap.size w (w3.setCell ⟨w.heap.size + 1 + 1, 4, none⟩ (.slice (some ⟨bn, 0, none⟩) nb nb)) ∧ Box (w3.setCell ⟨w.heap.size + 1 + 1, 4, none⟩ (.slice (some ⟨bn, 0, none⟩) nb nb)) w.heap.size 53 #[.int .i64 fp, .int .i64 fa, .int .i64 fw, .int .i64 lg, .slice ba nb bk] ∧ Box (w3.setCell ⟨w.heap.size + 1 + 1, 4, none⟩ (.slice (some ⟨bn, 0, none⟩) nb nb)) (w.heap.size + 1) 33 #[.int .i64 0, .int .i64 0, .int .i64 0, .int .i64 0, .slice none 0 0] ∧ Box (w3.setCell ⟨w.heap.size + 1 + 1, 4, none⟩ (.slice (some ⟨bn, 0, none⟩) nb nb)) (w.heap.size + 1 + 1) 33 #[.int .i64 fp, .int .i64 fa, .int .i64 fw, .int .i64 lg, .slice (some ⟨bn, 0, none⟩) nb nb]) ∧ VOwn bn 74 2 (w3.setCell ⟨w.heap.size + 1 + 1, 4, none⟩ (.slice (some ⟨bn, 0, none⟩) nb nb)) (.slice (some ⟨bn, 0, none⟩) nb nb) nb (intF B)) := ⟨⟨S3.out.1.setCell (Nat.le_add_right _ 2) _, S3.out.2.1.other e0 _, S3.out.2.2.1.other e1 _, by
  have h9 := S3.out.2.2.2.set 4 (.slice (some ⟨bn, 0, none⟩) nb nb)
  exact h9⟩, HN.out.1.set S3.out.2.2.2 (by decide) 4 _⟩
 have z4 := S3.out.2.2.2.cel 4
 have q4 := S3.out.2.2.2.free 4
 have HL : Hid (w.heap.size + 1 + 1 < bn) := HN.out.2
 clear HN S3
 go_upto_region 5 with fail
 clear z4 q4
 generalize (w3.setCell ⟨w.heap.size + 1 + 1, 4, none⟩ (.slice (some ⟨bn, 0, none⟩) nb nb)) = V4 at S4 ⊢
 have z0 := S4.out.1.2.2.2.cel 0
 have z1 := S4.out.1.2.2.2.cel 1
 have z2 := S4.out.1.2.2.2.cel 2
 have z3 := S4.out.1.2.2.2.cel 3
 have z4 := S4.out.1.2.2.2.cel 4
 have y0 := S4.out.1.2.2.1.cel 0
 have y1 := S4.out.1.2.2.1.cel 1
 have y2 := S4.out.1.2.2.1.cel 2
 have y3 := S4.out.1.2.2.1.cel 3
 have y4 := S4.out.1.2.2.1.cel 4
 have q0 := S4.out.1.2.2.1.free 0
 have q1 := S4.out.1.2.2.1.free 1
 have q2 := S4.out.1.2.2.1.free 2
 have q3 := S4.out.1.2.2.1.free 3
 have q4 := S4.out.1.2.2.1.free 4
 have S5 : Hid ((Below w.heap.size w (((((V4.setCell ⟨w.heap.size + 1, 0, none⟩ (.int .i64 fp)).setCell ⟨w.heap.size + 1, 1, none⟩ (.int .i64 fa)).setCell ⟨w.heap.size + 1, 2, none⟩ (.int .i64 fw)).setCell ⟨w.heap.size + 1, 3, none⟩ (.int .i64 lg)).setCell ⟨w.heap.size + 1, 4, none⟩ (.slice (some ⟨bn, 0, none⟩) nb nb)) ∧ Box (((((V4.setCell ⟨w.heap.size + 1, 0, none⟩ (.int .i64 fp)).setCell ⟨w.heap.size + 1, 1, none⟩ (.int .i64 fa)).setCell ⟨w.heap.size + 1, 2, none⟩ (.int .i64 fw)).setCell ⟨w.heap.size + 1, 3, none⟩ (.int .i64 lg)).setCell ⟨w.heap.size + 1, 4, none⟩ (.slice (some ⟨bn, 0, none⟩) nb nb)) (w.heap.size + 1) 33 #[.int .i64 fp, .int .i64 fa, .int .i64 fw, .int .i64 lg, .slice (some ⟨bn, 0, none⟩) nb nb]) ∧ VOwn bn 74 2 (((((V4.setCell ⟨w.heap.size + 1, 0, none⟩ (.int .i64 fp)).setCell ⟨w.heap.size + 1, 1, none⟩ (.int .i64 fa)).setCell ⟨w.heap.size + 1, 2, none⟩ (.int .i64 fw)).setCell ⟨w.heap.size + 1, 3, none⟩ (.int .i64 lg)).setCell ⟨w.heap.size + 1, 4, none⟩ (.slice (some ⟨bn, 0, none⟩) nb nb)) (.slice (some ⟨bn, 0, none⟩) nb nb) nb (intF B)) := ⟨⟨(((((S4.out.1.1.setCell (Nat.le_add_right _ 1) _).setCell (Nat.le_add_right _ 1) _).setCell (Nat.le_add_right _ 1) _).setCell (Nat.le_add_right _ 1) _).setCell (Nat.le_add_right _ 1) _), by
  have h9 := (((((S4.out.1.2.2.1.set 0 (.int .i64 fp)).set 1 (.int .i64 fa)).set 2 (.int .i64 fw)).set 3 (.int .i64 lg)).set 4 (.slice (some ⟨bn, 0, none⟩) nb nb))
  exact h9⟩, (((((S4.out.2.set S4.out.1.2.2.1 (by decide) 0 _).set (S4.out.1.2.2.1.set 0 (.int .i64 fp)) (by decide) 1 _).set ((S4.out.1.2.2.1.set 0 (.int .i64 fp)).set 1 (.int .i64 fa)) (by decide) 2 _).set (((S4.out.1.2.2.1.set 0 (.int .i64 fp)).set 1 (.int .i64 fa)).set 2 (.int .i64 fw)) (by decide) 3 _).set ((((S4.out.1.2.2.1.set 0 (.int .i64 fp)).set 1 (.int .i64 fa)).set 2 (.int .i64 fw)).set 3 (.int .i64 lg)) (by decide) 4 _)⟩
 go_wp2_with fail
 clear z0 z1 z2 z3 z4 y0 y1 y2 y3 y4 q0 q1 q2 q3 q4 S4
 generalize (((((V4.setCell ⟨w.heap.size + 1, 0, none⟩ (.int .i64 fp)).setCell ⟨w.heap.size + 1, 1, none⟩ (.int .i64 fa)).setCell ⟨w.heap.size + 1, 2, none⟩ (.int .i64 fw)).setCell ⟨w.heap.size + 1, 3, none⟩ (.int .i64 lg)).setCell ⟨w.heap.size + 1, 4, none⟩ (.slice (some ⟨bn, 0, none⟩) nb nb)) = W9 at S5 ⊢
 have z0 := S5.out.1.2.cel 0
 have z1 := S5.out.1.2.cel 1
 have z2 := S5.out.1.2.cel 2
 have z3 := S5.out.1.2.cel 3
 have z4 := S5.out.1.2.cel 4
 exact bodyPost_ret (v := .agg #[.int .i64 fp, .int .i64 fa, .int .i64 fw, .int .i64 lg, .slice (some ⟨bn, 0, none⟩) nb nb]) (by simp [results, Tryz.results21, go_sem, z0, z1, z2, z3, z4]) rfl ⟨bn, rfl, S5.out.2.keep (by have := HL.out; omega) (fun _ _ => rfl), S5.out.1.1⟩
set_option maxHeartbeats 2000000 in
theorem markTrain15 (t0 t1 t2 t3 : Int) (a : Option Addr) (n cap k b off : Nat) (w : World) (hn : n ≤ 1048576) (hk : k ≤ 1152921504606846976) (ha : 0 < n → a = some ⟨b, off, none⟩) (hl : 0 < n → b < w.heap.size) (hw : ∀ o, off ≤ o → o < off + n * 2 → (∃ v, w.cell? ⟨b, o, none⟩ = some v) ∧ w.frozen? ⟨b, o, none⟩ = false) :
  Calls Tryz.prog 27 #[.agg #[.int .i64 t0, .int .i64 t1, .int .i64 t2, .int .i64 t3, .slice a n cap], .int .i64 k] w fun e w' => e = .returned (.int .i64 ((k + n * 2 : Nat) : Int)) ∧ (∃ o, Within b off (off + n * 2) (w.alloc o) w') ∧ ∀ i, i < n → ∀ j, j < 2 → w'.cell? ⟨b, off + i * 2 + j, none⟩ = some (.int .i64 ((k + i * 2 + j : Nat) : Int)) := by
 have hb := bel1 w (.cells #[.int .i64 t0, .int .i64 t1, .int .i64 t2, .int .i64 t3, .slice a n cap] 33)
 have t4 := (Box.new w 33 #[.int .i64 t0, .int .i64 t1, .int .i64 t2, .int .i64 t3, .slice a n cap]).cel 4
 have HW : Hid (∀ o, off ≤ o → o < off + n * 2 → (∃ v, (w.alloc (.cells #[.int .i64 t0, .int .i64 t1, .int .i64 t2, .int .i64 t3, .slice a n cap] 33)).cell? ⟨b, o, none⟩ = some v) ∧ (w.alloc (.cells #[.int .i64 t0, .int .i64 t1, .int .i64 t2, .int .i64 t3, .slice a n cap] 33)).frozen? ⟨b, o, none⟩ = false) := fun o h1 h2 => by
  obtain ⟨⟨v, hv⟩, hf⟩ := hw o h1 h2
  exact ⟨⟨v, cell_keep hb (hl (by omega)) hv⟩, (hb.frozen (p := ⟨b, o, none⟩) (hl (by omega))).trans hf⟩
 clear hw
 go_enter Tryz.func27, Tryz.ntmps27
 go_wp2_with fail
 refine (markStepS52 a n cap k b off _ hn hk ha HW.out).mono ?_
 rintro e w1 ⟨rfl, h1, h2⟩
 go_wp2_with fail
 go_ret
 exact ⟨rfl, ⟨_, h1⟩, h2⟩
set_option maxHeartbeats 2000000 in
theorem heldTrain20 (t0 t1 t2 t3 : Int) (a : Option Addr) (n cap k b off : Nat) (w : World) (hn : n ≤ 1048576) (hk : k ≤ 1152921504606846976) (ha : 0 < n → a = some ⟨b, off, none⟩) (hl : 0 < n → b < w.heap.size) (hm : ∀ i, i < n → ∀ j, j < 2 → w.cell? ⟨b, off + i * 2 + j, none⟩ = some (.int .i64 ((k + i * 2 + j : Nat) : Int))) :
  Calls Tryz.prog 53 #[.agg #[.int .i64 t0, .int .i64 t1, .int .i64 t2, .int .i64 t3, .slice a n cap], .int .i64 k] w fun e w' => e = .returned (.int .i64 ((k + n * 2 : Nat) : Int)) ∧ Below w.heap.size w w' := by
 have hb := bel1 w (.cells #[.int .i64 t0, .int .i64 t1, .int .i64 t2, .int .i64 t3, .slice a n cap] 33)
 have t4 := (Box.new w 33 #[.int .i64 t0, .int .i64 t1, .int .i64 t2, .int .i64 t3, .slice a n cap]).cel 4
 have HM : Hid (∀ i, i < n → ∀ j, j < 2 → (w.alloc (.cells #[.int .i64 t0, .int .i64 t1, .int .i64 t2, .int .i64 t3, .slice a n cap] 33)).cell? ⟨b, off + i * 2 + j, none⟩ = some (.int .i64 ((k + i * 2 + j : Nat) : Int))) := fun i hi j hj => cell_keep hb (hl (by omega)) (hm i hi j hj)
 have hnn : ¬ (((k + n * 2 : Nat) : Int) < 0) := by omega
 have hnn2 : ¬ ((k : Int) + (n : Int) * 2 < 0) := by omega
 clear hm
 go_enter Tryz.func53, Tryz.ntmps53
 go_wp2_with fail
 refine (heldStepS57 a n cap k b off _ hn hk ha HM.out).mono ?_
 rintro e w1 ⟨rfl, rfl⟩
 go_wp2_with fail
 go_ret
 exact ⟨rfl, bel1 _ _⟩
end Go.Proofs.YtjhmaofjmalglaaGreat
