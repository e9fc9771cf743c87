import Derived.Test.YtjhmaofjmalglaaGreatZaa
import Derived.Deep.OwnRows
namespace Go.Proofs.YtjhmaofjmalglaaGreat
open Go.RowKit
def mk0 (z : Value) (k : Nat) : Array Value := madeCells z.cells k
theorem make_rows {P : Program} (t e : TypeId) (z : Value) (bytes size : Nat) (ht : P.underlying t = some (.slice e)) (hinfo : (P.info? e).map (fun i => (i.zero, i.size, i.bytes)) = some (some z, size, bytes))
  (n : Nat) (hbytes : bytes * n ≤ 281474976710656) (h63 : n ≤ 9223372036854775807) (w : World) :
  (Instr.makeSlice t (.int .i64 (n : Int)) (.int .i64 (n : Int))).run P w = .ok (.slice (some ⟨w.heap.size, 0, none⟩) n n) (w.alloc (.cells (mk0 z (n * size)) e)) := by
 obtain ⟨i, hi, hzz⟩ := Option.map_eq_some_iff.1 hinfo
 simp only [Prod.mk.injEq] at hzz
 obtain ⟨hz, hs, hb⟩ := hzz
 have hb' : (i.bytes : Int) * (n : Int) ≤ 281474976710656 := by
  have h : ((i.bytes * n : Nat) : Int) ≤ 281474976710656 := by rw [hb]; omega
  rwa [Int.natCast_mul] at h
 have hr := run_make (P := P) w t e i z ht hi hz .i64 .i64 n n (by omega) (Int.le_refl _) hb' (by omega)
 simp only [Int.toNat_natCast, hs] at hr
 exact hr
theorem row_mk0 (w : World) (z : Value) (k : Nat) (e : TypeId) : ∃ f, (w.alloc (.cells (mk0 z k) e)).rowIs w.heap.size e k f := by
 refine ⟨fun i => (mk0 z k).getD i z, ?_⟩
 have h := World.rowIs_alloc w (mk0 z k) e (fun i => (mk0 z k).getD i z) (fun i hi => by simp [Array.getD, hi])
 have hs : (mk0 z k).size = k := size_madeCells _ _
 rw [hs] at h
 exact h
theorem rowBel {w w' : World} {b : Nat} {t : TypeId} {n : Nat} {f : Nat → Value} {B : Nat} (h : w.rowIs b t n f) (hb : Below B w w') (hB : b < B) : w'.rowIs b t n f :=
 h.of_block (hb.block b hB)
theorem info48 : (Tryz.prog.info? 82).map (fun i => (i.zero, i.size, i.bytes)) = some (some (.agg #[.string ⟨#[]⟩, .int .i64 0, .int .i64 0, .int .i64 0]), 4, 40) := by kernel_rfl
theorem info54 : (Tryz.prog.info? 76).map (fun i => (i.zero, i.size, i.bytes)) = some (some (.agg #[.int .i64 0, .int .i64 0]), 2, 16) := by kernel_rfl
theorem info61 : (Tryz.prog.info? 132).map (fun i => (i.zero, i.size, i.bytes)) = some (some (.agg #[.int .i64 0, .string ⟨#[]⟩, .slice none 0 0]), 3, 48) := by kernel_rfl
def PsTo (wr : World) (B n k : Nat) (P : Nat → Pc) : Prop :=
 ∃ f, wr.rowIs B 82 (n * 4) f ∧ ∀ j, j < k → f (j * 4) = .string (P j).nm ∧ f (j * 4 + 1) = .int .i64 (P j).ln ∧ f (j * 4 + 2) = .int .i64 (P j).sp ∧ f (j * 4 + 3) = .int .i64 (P j).br
theorem PsTo.step {w : World} {B n k : Nat} {P : Nat → Pc} (h : PsTo w B n k P) :
  PsTo ((((w.setCell ⟨B, k * 4, none⟩ (.string (P k).nm)).setCell ⟨B, k * 4 + 1, none⟩ (.int .i64 (P k).ln)).setCell ⟨B, k * 4 + 2, none⟩ (.int .i64 (P k).sp)).setCell ⟨B, k * 4 + 3, none⟩ (.int .i64 (P k).br)) B n (k + 1) P := by
 obtain ⟨f, hr, hf⟩ := h
 refine ⟨_, (((hr.set _ _).set _ _).set _ _).set _ _, fun j hj => ?_⟩
 by_cases e : j = k
 ·
  subst e
  simp
 ·
  have := hf j (by omega)
  simp only [show ¬ j * 4 = k * 4 by omega, show ¬ j * 4 = k * 4 + 1 by omega, show ¬ j * 4 = k * 4 + 2 by omega, show ¬ j * 4 = k * 4 + 3 by omega,
   show ¬ j * 4 + 1 = k * 4 by omega, show ¬ j * 4 + 1 = k * 4 + 1 by omega, show ¬ j * 4 + 1 = k * 4 + 2 by omega, show ¬ j * 4 + 1 = k * 4 + 3 by omega,
   show ¬ j * 4 + 2 = k * 4 by omega, show ¬ j * 4 + 2 = k * 4 + 1 by omega, show ¬ j * 4 + 2 = k * 4 + 2 by omega, show ¬ j * 4 + 2 = k * 4 + 3 by omega,
   show ¬ j * 4 + 3 = k * 4 by omega, show ¬ j * 4 + 3 = k * 4 + 1 by omega, show ¬ j * 4 + 3 = k * 4 + 2 by omega, show ¬ j * 4 + 3 = k * 4 + 3 by omega, if_false]
  exact this
theorem PsTo.at {w : World} {B n : Nat} {P : Nat → Pc} (h : PsTo w B n n P) : PsAt B w (some ⟨B, 0, none⟩) n P := by
 obtain ⟨f, hr, hf⟩ := h
 intro _
 refine ⟨B, 0, rfl, Nat.le_refl _, hr.lt, fun i hi => ?_⟩
 obtain ⟨h1, h2, h3, h4⟩ := hf i hi
 rw [Nat.zero_add, ← h1, ← h2, ← h3, ← h4]
 exact ⟨hr.cell (by omega), hr.cell (by omega), hr.cell (by omega), hr.cell (by omega)⟩
def EsTo (wr : World) (B n k : Nat) (E : Nat → En) : Prop :=
 ∃ f, wr.rowIs B 76 (n * 2) f ∧ ∀ j, j < k → f (j * 2) = .int .i64 (E j).pc ∧ f (j * 2 + 1) = .int .i64 (E j).sd
theorem EsTo.step {w : World} {B n k : Nat} {E : Nat → En} (h : EsTo w B n k E) :
  EsTo ((w.setCell ⟨B, k * 2, none⟩ (.int .i64 (E k).pc)).setCell ⟨B, k * 2 + 1, none⟩ (.int .i64 (E k).sd)) B n (k + 1) E := by
 obtain ⟨f, hr, hf⟩ := h
 refine ⟨_, (hr.set _ _).set _ _, fun j hj => ?_⟩
 by_cases e : j = k
 ·
  subst e
  simp
 ·
  have := hf j (by omega)
  simp only [show ¬ j * 2 = k * 2 by omega, show ¬ j * 2 = k * 2 + 1 by omega, show ¬ j * 2 + 1 = k * 2 by omega, show ¬ j * 2 + 1 = k * 2 + 1 by omega, if_false]
  exact this
theorem EsTo.at {w : World} {B n : Nat} {E : Nat → En} (h : EsTo w B n n E) : EsAt B w (some ⟨B, 0, none⟩) n E := by
 obtain ⟨f, hr, hf⟩ := h
 intro _
 refine ⟨B, 0, rfl, Nat.le_refl _, hr.lt, fun i hi => ?_⟩
 obtain ⟨h1, h2⟩ := hf i hi
 rw [Nat.zero_add, ← h1, ← h2]
 exact ⟨hr.cell (by omega), hr.cell (by omega)⟩
theorem EsTo.setOther {w : World} {b' n k : Nat} {E : Nat → En} (h : EsTo w b' n k E) {B o : Nat} (hne : b' ≠ B) (v : Value) : EsTo (w.setCell ⟨B, o, none⟩ v) b' n k E := by
 obtain ⟨f, hr, hf⟩ := h
 exact ⟨f, hr.setOther (a := ⟨B, o, none⟩) hne v, hf⟩
theorem EsTo.below {w w' : World} {b' n k : Nat} {E : Nat → En} (h : EsTo w b' n k E) (hb : Below w.heap.size w w') : EsTo w' b' n k E := by
 obtain ⟨f, hr, hf⟩ := h
 exact ⟨f, rowBel hr hb hr.lt, hf⟩
theorem PsTo.below {w w' : World} {B n k : Nat} {P : Nat → Pc} (h : PsTo w B n k P) (hb : Below w.heap.size w w') : PsTo w' B n k P := by
 obtain ⟨f, hr, hf⟩ := h
 exact ⟨f, rowBel hr hb hr.lt, hf⟩
theorem EsTo.lt {w : World} {b' n k : Nat} {E : Nat → En} (h : EsTo w b' n k E) : b' < w.heap.size := by
 obtain ⟨f, hr, _⟩ := h
 exact hr.lt
def JsTo (wr : World) (B n k : Nat) (J : Nat → Jt) : Prop :=
 ∃ f, wr.rowIs B 132 (n * 3) f ∧ ∀ j, j < k → f (j * 3) = .int .i64 (J j).kd ∧ f (j * 3 + 1) = .string (J j).nm ∧
  ∃ b', f (j * 3 + 2) = .slice (some ⟨b', 0, none⟩) (J j).ne (J j).ne ∧ B < b' ∧ EsTo wr b' (J j).ne (J j).ne (J j).E
theorem JsTo.step {w : World} {B n k : Nat} {J : Nat → Jt} {b' : Nat} (h : JsTo w B n k J) (hb : B < b') (hE : EsTo w b' (J k).ne (J k).ne (J k).E) :
  JsTo (((w.setCell ⟨B, k * 3, none⟩ (.int .i64 (J k).kd)).setCell ⟨B, k * 3 + 1, none⟩ (.string (J k).nm)).setCell ⟨B, k * 3 + 2, none⟩ (.slice (some ⟨b', 0, none⟩) (J k).ne (J k).ne)) B n (k + 1) J := by
 obtain ⟨f, hr, hf⟩ := h
 refine ⟨_, ((hr.set _ _).set _ _).set _ _, fun j hj => ?_⟩
 by_cases e : j = k
 ·
  subst e
  refine ⟨by simp, by simp, b', by simp, hb, ?_⟩
  exact ((hE.setOther (by omega) _).setOther (by omega) _).setOther (by omega) _
 ·
  obtain ⟨h1, h2, c, h3, h4, h5⟩ := hf j (by omega)
  simp only [show ¬ j * 3 = k * 3 by omega, show ¬ j * 3 = k * 3 + 1 by omega, show ¬ j * 3 = k * 3 + 2 by omega,
   show ¬ j * 3 + 1 = k * 3 by omega, show ¬ j * 3 + 1 = k * 3 + 1 by omega, show ¬ j * 3 + 1 = k * 3 + 2 by omega,
   show ¬ j * 3 + 2 = k * 3 by omega, show ¬ j * 3 + 2 = k * 3 + 1 by omega, show ¬ j * 3 + 2 = k * 3 + 2 by omega, if_false]
  exact ⟨h1, h2, c, h3, h4, ((h5.setOther (by omega) _).setOther (by omega) _).setOther (by omega) _⟩
theorem JsTo.mono {w w' : World} {B n k : Nat} {J : Nat → Jt} (h : JsTo w B n k J) (hb : Below w.heap.size w w') : JsTo w' B n k J := by
 obtain ⟨f, hr, hf⟩ := h
 refine ⟨f, rowBel hr hb hr.lt, fun j hj => ?_⟩
 obtain ⟨h1, h2, c, h3, h4, h5⟩ := hf j hj
 exact ⟨h1, h2, c, h3, h4, h5.below hb⟩
theorem JsTo.at {w : World} {B n : Nat} {J : Nat → Jt} (h : JsTo w B n n J) : JsAt B w (some ⟨B, 0, none⟩) n J := by
 obtain ⟨f, hr, hf⟩ := h
 intro _
 refine ⟨B, 0, rfl, Nat.le_refl _, hr.lt, fun i hi => ?_⟩
 obtain ⟨h1, h2, c, h3, h4, h5⟩ := hf i hi
 refine ⟨some ⟨c, 0, none⟩, (J i).ne, ?_, ?_, ?_, h5.at.keep (by omega) (Nat.le_refl _) fun _ _ _ => rfl⟩
 ·
  rw [Nat.zero_add, ← h1]; exact hr.cell (by omega)
 ·
  rw [Nat.zero_add, ← h2]; exact hr.cell (by omega)
 ·
  rw [Nat.zero_add, ← h3]; exact hr.cell (by omega)
set_option maxHeartbeats 400000 in
theorem toPieceS22x (a : Option Addr) (n cap : Nat) (P : Nat → Pc) (w : World) (hn : n ≤ 1048576) (hP : PsAt 0 w a n P) :
  Calls Tryz.prog 39 #[.slice a n cap] w fun e w' =>
   e = .returned (.slice (some ⟨w.heap.size, 0, none⟩) n n) ∧ PsTo w' w.heap.size n n P ∧ Below w.heap.size w w' := by
 have hmk := make_rows (P := Tryz.prog) 37 82 _ 40 4 Tryz.underlying37 info48 n (by omega) (by omega)
 have hf0 : PsTo (w.alloc (.cells (mk0 (.agg #[.string ⟨#[]⟩, .int .i64 0, .int .i64 0, .int .i64 0]) (n * 4)) 82)) w.heap.size n 0 P := by
  obtain ⟨f0, hf0⟩ := row_mk0 w (.agg #[.string ⟨#[]⟩, .int .i64 0, .int .i64 0, .int .i64 0]) (n * 4) 82
  exact ⟨f0, hf0, fun j hj => absurd hj (Nat.not_lt_zero _)⟩
 go_enter Tryz.func39, Tryz.ntmps39
 go_wp2_with fail
 go_loopw [4] (fun i wr => ∃ (k : Nat), k ≤ n ∧ i = .int .i64 k ∧ PsTo wr w.heap.size n k P ∧ Below w.heap.size w wr)
   (fun i _ => n - (intOf i).toNat)
 case atStart => exact ⟨0, Nat.zero_le _, rfl, hf0, bel1 _ _⟩
 case round =>
  obtain ⟨k, hk, rfl, hto, hbel⟩ := hrel
  clear hf0 hmk
  by_cases hlt : k < n
  ·
   obtain ⟨b, off, rfl, _, hb, hc⟩ := (hP.mono (Nat.le_refl _) hbel (Nat.le_refl _)) (by omega)
   obtain ⟨c0, c1, c2, c3⟩ := hc k hlt
   clear hc
   go_wp2_with fail
   refine (toPiece40 (P k) _).mono ?_
   rintro e w1 ⟨rfl, hb1⟩
   have hto1 : PsTo w1 w.heap.size n k P := by
    obtain ⟨f, hr, hf⟩ := hto
    exact ⟨f, rowBel hr hb1 hr.lt, hf⟩
   have hbel1 := hbel.trans (hb1.mono hbel.size)
   have hR := hto1.step
   obtain ⟨f, hr1, _⟩ := hto1
   have d0 := hr1.cell (i := k * 4) (by omega)
   have d1 := hr1.cell (i := k * 4 + 1) (by omega)
   have d2 := hr1.cell (i := k * 4 + 2) (by omega)
   have d3 := hr1.cell (i := k * 4 + 3) (by omega)
   have e0 := hr1.frozen (k * 4)
   have e1 := hr1.frozen (k * 4 + 1)
   have e2 := hr1.frozen (k * 4 + 2)
   have e3 := hr1.frozen (k * 4 + 3)
   clear c0 c1 c2 c3 hto hr1
   go_wp2_with fail
   go_roundw
   case rel => exact ⟨k + 1, by omega, by go_num, hR, (((hbel1.setCell (Nat.le_refl _) _).setCell (Nat.le_refl _) _).setCell (Nat.le_refl _) _).setCell (Nat.le_refl _) _⟩
   case measure => simp [intOf]; omega
  ·
   obtain rfl : k = n := by omega
   go_wp2
   go_ret
   exact ⟨rfl, hto, hbel⟩
set_option maxHeartbeats 400000 in
theorem toEndS49x (a : Option Addr) (n cap : Nat) (E : Nat → En) (w : World) (hn : n ≤ 1048576) (hE : EsAt 0 w a n E) :
  Calls Tryz.prog 120 #[.slice a n cap] w fun e w' =>
   e = .returned (.slice (some ⟨w.heap.size, 0, none⟩) n n) ∧ EsTo w' w.heap.size n n E ∧ Below w.heap.size w w' := by
 have hmk := make_rows (P := Tryz.prog) 130 76 _ 16 2 Tryz.underlying130 info54 n (by omega) (by omega)
 have hf0 : EsTo (w.alloc (.cells (mk0 (.agg #[.int .i64 0, .int .i64 0]) (n * 2)) 76)) w.heap.size n 0 E := by
  obtain ⟨f0, hf0⟩ := row_mk0 w (.agg #[.int .i64 0, .int .i64 0]) (n * 2) 76
  exact ⟨f0, hf0, fun j hj => absurd hj (Nat.not_lt_zero _)⟩
 go_enter Tryz.func120, Tryz.ntmps120
 go_wp2_with fail
 go_loopw [4] (fun i wr => ∃ (k : Nat), k ≤ n ∧ i = .int .i64 k ∧ EsTo wr w.heap.size n k E ∧ Below w.heap.size w wr)
   (fun i _ => n - (intOf i).toNat)
 case atStart => exact ⟨0, Nat.zero_le _, rfl, hf0, bel1 _ _⟩
 case round =>
  obtain ⟨k, hk, rfl, hto, hbel⟩ := hrel
  clear hf0 hmk
  by_cases hlt : k < n
  ·
   obtain ⟨b, off, rfl, _, hb, hc⟩ := (hE.mono (Nat.le_refl _) hbel (Nat.le_refl _)) (by omega)
   obtain ⟨c0, c1⟩ := hc k hlt
   clear hc
   go_wp2_with fail
   refine (toEnd52 (E k).pc (E k).sd _).mono ?_
   rintro e w1 ⟨rfl, hb1⟩
   have hto1 : EsTo w1 w.heap.size n k E := by
    obtain ⟨f, hr, hf⟩ := hto
    exact ⟨f, rowBel hr hb1 hr.lt, hf⟩
   have hbel1 := hbel.trans (hb1.mono hbel.size)
   have hR := hto1.step
   obtain ⟨f, hr1, _⟩ := hto1
   have d0 := hr1.cell (i := k * 2) (by omega)
   have d1 := hr1.cell (i := k * 2 + 1) (by omega)
   have e0 := hr1.frozen (k * 2)
   have e1 := hr1.frozen (k * 2 + 1)
   clear c0 c1 hto hr1
   go_wp2_with fail
   go_roundw
   case rel => exact ⟨k + 1, by omega, by go_num, hR, (hbel1.setCell (Nat.le_refl _) _).setCell (Nat.le_refl _) _⟩
   case measure => simp [intOf]; omega
  ·
   obtain rfl : k = n := by omega
   go_wp2
   go_ret
   exact ⟨rfl, hto, hbel⟩
set_option maxHeartbeats 400000 in
theorem toJoint41 (j : Jt) (ea : Option Addr) (ec : Nat) (w : World) (hn : j.ne ≤ 1048576) (hE : EsAt 0 w ea j.ne j.E) :
  Calls Tryz.prog 82 #[.agg #[.int .i64 j.kd, .string j.nm, .slice ea j.ne ec]] w fun e w' =>
   ∃ b', w.heap.size ≤ b' ∧ e = .returned (.agg #[.int .i64 j.kd, .string j.nm, .slice (some ⟨b', 0, none⟩) j.ne j.ne]) ∧ EsTo w' b' j.ne j.ne j.E ∧ Below w.heap.size w w' := by
 go_enter Tryz.func82, Tryz.ntmps82
 go_wp2_with fail
 refine (toEndS49x ea j.ne ec j.E _ hn (hE.mono (Nat.le_refl _) (bel3 w _ _ _) (Nat.le_refl _))).mono ?_
 rintro e w1 ⟨rfl, hE1, hb1⟩
 obtain ⟨hc, hf⟩ := bcell hb1
 have hz : w.heap.size + 1 + 1 < w1.heap.size := by have := hb1.size; simp at this; omega
 have hB : Below w.heap.size w w1 := (bel3 w _ _ _).trans (hb1.mono (by simp; omega))
 have hE2 : EsTo w1 (w.heap.size + 1 + 1 + 1) j.ne j.ne j.E := by simpa using hE1
 clear hE1 hb1
 go_wp2_with fail
 refine bodyPost_ret (v := .agg #[.int .i64 j.kd, .string j.nm, .slice (some ⟨w.heap.size + 1 + 1 + 1, 0, none⟩) j.ne j.ne]) (by simp [results, Tryz.results82, go_sem, hc]) rfl ⟨w.heap.size + 1 + 1 + 1, by omega, rfl, ?_, ?_⟩
 ·
  exact (((hE2.setOther (by omega) _).setOther (by omega) _).setOther (by omega) _).setOther (by omega) _
 ·
  exact (((hB.setCell (by show w.heap.size ≤ w.heap.size + 1 + 1; omega) _).setCell (by show w.heap.size ≤ w.heap.size + 1; omega) _).setCell (by show w.heap.size ≤ w.heap.size + 1; omega) _).setCell (by show w.heap.size ≤ w.heap.size + 1; omega) _
set_option maxHeartbeats 400000 in
theorem toJointS23x (a : Option Addr) (n cap : Nat) (J : Nat → Jt) (w : World) (hn : n ≤ 1048576) (hJ : JsAt 0 w a n J) (hne : ∀ i, i < n → (J i).ne ≤ 1048576) :
  Calls Tryz.prog 40 #[.slice a n cap] w fun e w' =>
   e = .returned (.slice (some ⟨w.heap.size, 0, none⟩) n n) ∧ JsTo w' w.heap.size n n J ∧ Below w.heap.size w w' := by
 have hmk := make_rows (P := Tryz.prog) 38 132 _ 48 3 Tryz.underlying38 info61 n (by omega) (by omega)
 have hf0 : JsTo (w.alloc (.cells (mk0 (.agg #[.int .i64 0, .string ⟨#[]⟩, .slice none 0 0]) (n * 3)) 132)) w.heap.size n 0 J := by
  obtain ⟨f0, hf0⟩ := row_mk0 w (.agg #[.int .i64 0, .string ⟨#[]⟩, .slice none 0 0]) (n * 3) 132
  exact ⟨f0, hf0, fun j hj => absurd hj (Nat.not_lt_zero _)⟩
 have Hne : Hid (∀ i, i < n → (J i).ne ≤ 1048576) := hne
 clear hne
 go_enter Tryz.func40, Tryz.ntmps40
 go_wp2_with fail
 go_loopw [4] (fun i wr => ∃ (k : Nat), k ≤ n ∧ i = .int .i64 k ∧ JsTo wr w.heap.size n k J ∧ Below w.heap.size w wr)
   (fun i _ => n - (intOf i).toNat)
 case atStart => exact ⟨0, Nat.zero_le _, rfl, hf0, bel1 _ _⟩
 case round =>
  obtain ⟨k, hk, rfl, hto, hbel⟩ := hrel
  clear hf0 hmk
  by_cases hlt : k < n
  ·
   obtain ⟨b, off, rfl, _, hb, hc⟩ := (hJ.mono (Nat.le_refl _) hbel (Nat.le_refl _)) (by omega)
   obtain ⟨ea, ec, c0, c1, c2, hE⟩ := hc k hlt
   clear hc
   go_wp2_with fail
   refine (toJoint41 (J k) ea ec _ (Hne.out k hlt) hE).mono ?_
   rintro e w1 ⟨b', hb', rfl, hE1, hb1⟩
   have hto1 : JsTo w1 w.heap.size n k J := hto.mono hb1
   have hlt1 : w.heap.size + 1 ≤ wr.heap.size := by
    obtain ⟨f, hr, _⟩ := hto
    exact hr.lt
   have hbel1 := hbel.trans (hb1.mono hbel.size)
   have hR := hto1.step (b' := b') (by omega) hE1
   obtain ⟨f, hr1, _⟩ := hto1
   have d0 := hr1.cell (i := k * 3) (by omega)
   have d1 := hr1.cell (i := k * 3 + 1) (by omega)
   have d2 := hr1.cell (i := k * 3 + 2) (by omega)
   have e0 := hr1.frozen (k * 3)
   have e1 := hr1.frozen (k * 3 + 1)
   have e2 := hr1.frozen (k * 3 + 2)
   clear c0 c1 c2 hto hr1 hE hE1
   go_wp2_with fail
   go_roundw
   case rel => exact ⟨k + 1, by omega, by go_num, hR, ((hbel1.setCell (Nat.le_refl _) _).setCell (Nat.le_refl _) _).setCell (Nat.le_refl _) _⟩
   case measure => simp [intOf]; omega
  ·
   obtain rfl : k = n := by omega
   go_wp2
   go_ret
   exact ⟨rfl, hto, hbel⟩
theorem PsTo.setOther {w : World} {b' n k : Nat} {P : Nat → Pc} (h : PsTo w b' n k P) {B o : Nat} (hne : b' ≠ B) (v : Value) : PsTo (w.setCell ⟨B, o, none⟩ v) b' n k P := by
 obtain ⟨f, hr, hf⟩ := h
 exact ⟨f, hr.setOther (a := ⟨B, o, none⟩) hne v, hf⟩
theorem JsTo.setOther {w : World} {b' n k : Nat} {J : Nat → Jt} (h : JsTo w b' n k J) {B o : Nat} (hlt : B < b') (v : Value) : JsTo (w.setCell ⟨B, o, none⟩ v) b' n k J := by
 obtain ⟨f, hr, hf⟩ := h
 refine ⟨f, hr.setOther (a := ⟨B, o, none⟩) (by show b' ≠ B; omega) v, fun j hj => ?_⟩
 obtain ⟨h1, h2, c, h3, h4, h5⟩ := hf j hj
 exact ⟨h1, h2, c, h3, h4, h5.setOther (by omega) v⟩
set_option maxHeartbeats 400000 in
theorem toNet7x (pa : Option Addr) (n pc : Nat) (P : Nat → Pc) (ja : Option Addr) (m jc : Nat) (J : Nat → Jt) (w : World) (hn : n ≤ 1048576) (hm : m ≤ 1048576)
  (hP : PsAt 0 w pa n P) (hJ : JsAt 0 w ja m J) (hne : ∀ i, i < m → (J i).ne ≤ 1048576) :
  Calls Tryz.prog 8 #[.agg #[.slice pa n pc, .slice ja m jc]] w fun e w' =>
   ∃ pb jb, w.heap.size ≤ pb ∧ w.heap.size ≤ jb ∧ pb < jb ∧ e = .returned (.agg #[.slice (some ⟨pb, 0, none⟩) n n, .slice (some ⟨jb, 0, none⟩) m m]) ∧ PsTo w' pb n n P ∧ JsTo w' jb m m J ∧ Below w.heap.size w w' := by
 have Hne : Hid (∀ i, i < m → (J i).ne ≤ 1048576) := hne
 clear hne
 go_enter Tryz.func8, Tryz.ntmps8
 go_wp2_with fail
 refine (toPieceS22x pa n pc P _ hn (hP.mono (Nat.le_refl _) (bel3 w _ _ _) (Nat.le_refl _))).mono ?_
 rintro e w1 ⟨rfl, hP1, hb1⟩
 obtain ⟨hc, hf⟩ := bcell hb1
 have hz : w.heap.size + 1 + 1 < w1.heap.size := by have := hb1.size; simp at this; omega
 have hB : Below w.heap.size w w1 := (bel3 w _ _ _).trans (hb1.mono (by simp; omega))
 have hP2 : PsTo w1 (w.heap.size + 1 + 1 + 1) n n P := by simpa using hP1
 have hlt3 : w.heap.size + 1 + 1 + 1 < w1.heap.size := by
  obtain ⟨f, hr, _⟩ := hP2
  exact hr.lt
 clear hP1 hb1
 go_wp2_with fail
 have hB2 : Below w.heap.size w (w1.setCell ⟨w.heap.size + 1 + 1, 0, none⟩ (.slice (some ⟨w.heap.size + 1 + 1 + 1, 0, none⟩) n n)) := hB.setCell (by show w.heap.size ≤ w.heap.size + 1 + 1; omega) _
 have hP3 := hP2.setOther (B := w.heap.size + 1 + 1) (o := 0) (by omega) (.slice (some ⟨w.heap.size + 1 + 1 + 1, 0, none⟩) n n)
 refine (toJointS23x ja m jc J _ hm (hJ.mono (Nat.le_refl _) hB2 (Nat.le_refl _)) Hne.out).mono ?_
 rintro e w2 ⟨rfl, hJ3, hb2⟩
 obtain ⟨hc2, hf2⟩ := bcell hb2
 have hz2 : w.heap.size + 1 + 1 < w2.heap.size := by have := hb2.size; simp [World.setCell] at this; omega
 have hP4 := hP3.below hb2
 have hsz : (w1.setCell ⟨w.heap.size + 1 + 1, 0, none⟩ (.slice (some ⟨w.heap.size + 1 + 1 + 1, 0, none⟩) n n)).heap.size = w1.heap.size := by simp [World.setCell]
 rw [hsz] at hJ3 ⊢
 have hJ4 : JsTo w2 w1.heap.size m m J := hJ3
 have hB4 : Below w.heap.size w w2 := hB2.trans (hb2.mono hB2.size)
 have k0 : ∀ o, o < 2 → w1.cell? ⟨w.heap.size + 1 + 1, o, none⟩ = some (.slice none 0 0) := fun o ho => by
  rw [hc _ _ (by simp), World.cell?_alloc_at _ _ _ _ (by simp)]
  match o, ho with
  | 0, _ => rfl
  | 1, _ => rfl
 have k1 : ∀ o, o < 2 → w1.cell? ⟨w.heap.size + 1, o, none⟩ = some (.slice none 0 0) := fun o ho => by
  rw [hc _ _ (by simp), World.cell?_alloc_past _ _ _ (by simp), World.cell?_alloc_at _ _ _ _ (by simp)]
  match o, ho with
  | 0, _ => rfl
  | 1, _ => rfl
 have g0 : w2.cell? ⟨w.heap.size + 1 + 1, 0, none⟩ = some (.slice (some ⟨w.heap.size + 1 + 1 + 1, 0, none⟩) n n) := by rw [hc2 _ _ (by rw [hsz]; omega)]; exact cset_same (k0 0 (by omega))
 have g1 : w2.cell? ⟨w.heap.size + 1 + 1, 1, none⟩ = some (.slice none 0 0) := by rw [hc2 _ _ (by rw [hsz]; omega), cset_ne _ _ _ _ _ _ (by omega)]; exact k0 1 (by omega)
 have g2 : w2.cell? ⟨w.heap.size + 1, 0, none⟩ = some (.slice none 0 0) := by rw [hc2 _ _ (by rw [hsz]; omega), cset_ne _ _ _ _ _ _ (by omega)]; exact k1 0 (by omega)
 have g3 : w2.cell? ⟨w.heap.size + 1, 1, none⟩ = some (.slice none 0 0) := by rw [hc2 _ _ (by rw [hsz]; omega), cset_ne _ _ _ _ _ _ (by omega)]; exact k1 1 (by omega)
 have f1 : w2.frozen? ⟨w.heap.size + 1 + 1, 1, none⟩ = false := by rw [hf2 _ _ (by rw [hsz]; omega), World.frozen?_setCell, hf _ _ (by simp)]; exact World.frozen?_alloc_at _ _ _ _ (by simp)
 have f2 : w2.frozen? ⟨w.heap.size + 1, 0, none⟩ = false := by rw [hf2 _ _ (by rw [hsz]; omega), World.frozen?_setCell, hf _ _ (by simp), World.frozen?_alloc_past _ _ _ (by simp)]; exact World.frozen?_alloc_at _ _ _ _ (by simp)
 have f3 : w2.frozen? ⟨w.heap.size + 1, 1, none⟩ = false := by rw [hf2 _ _ (by rw [hsz]; omega), World.frozen?_setCell, hf _ _ (by simp), World.frozen?_alloc_past _ _ _ (by simp)]; exact World.frozen?_alloc_at _ _ _ _ (by simp)
 clear hJ3 hb2 hP2 hP3 hc hf hc2 hf2 k0 k1
 go_wp2_with fail
 refine bodyPost_ret (v := .agg #[.slice (some ⟨w.heap.size + 1 + 1 + 1, 0, none⟩) n n, .slice (some ⟨w1.heap.size, 0, none⟩) m m]) (by simp [results, Tryz.results8, go_sem, g2, g3]) rfl ⟨_, _, ?_, ?_, ?_, rfl, ?_, ?_, ?_⟩
 ·
  omega
 ·
  omega
 ·
  exact hlt3
 ·
  exact ((hP4.setOther (by omega) _).setOther (by omega) _).setOther (by omega) _
 ·
  exact ((hJ4.setOther (by omega) _).setOther (by omega) _).setOther (by omega) _
 ·
  exact ((hB4.setCell (by show w.heap.size ≤ w.heap.size + 1 + 1; omega) _).setCell (by show w.heap.size ≤ w.heap.size + 1; omega) _).setCell (by show w.heap.size ≤ w.heap.size + 1; omega) _
theorem toNet7 (pa : Option Addr) (n pc : Nat) (P : Nat → Pc) (ja : Option Addr) (m jc : Nat) (J : Nat → Jt) (w : World) (hn : n ≤ 1048576) (hm : m ≤ 1048576)
  (hP : PsAt 0 w pa n P) (hJ : JsAt 0 w ja m J) (hne : ∀ i, i < m → (J i).ne ≤ 1048576) :
  Calls Tryz.prog 8 #[.agg #[.slice pa n pc, .slice ja m jc]] w fun e w' =>
   ∃ pa' ja', e = .returned (.agg #[.slice pa' n n, .slice ja' m m]) ∧ PsAt w.heap.size w' pa' n P ∧ JsAt w.heap.size w' ja' m J ∧ Below w.heap.size w w' :=
 (toNet7x pa n pc P ja m jc J w hn hm hP hJ hne).mono fun _ _ ⟨_, _, h1, h2, _, he, h4, h5, h6⟩ => ⟨_, _, he, h4.at.keep h1 (Nat.le_refl _) fun _ _ _ => rfl, h5.at.keep h2 (Nat.le_refl _) fun _ _ _ => rfl, h6⟩
end Go.Proofs.YtjhmaofjmalglaaGreat
