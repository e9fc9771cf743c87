import Derived.Test.YtmcaohablpaknaaCs
import Derived.Test.YtmcaohablpaknaaL3
namespace Go.Proofs.Ytmcaohablpaknaa
open Go.RowKit

def sec0 : Sec := ⟨0, 0, false, false, 0⟩
theorem mk0_at (z : Value) (c n i j : Nat) (v : Value) (hz : z.cells.size = c) (hv : z.cells[j]? = some v) (hi : i < n) (hj : j < c) : (mk0 z (n * c))[i * c + j]? = some v := by
  have hk : i * c + j < n * c := by
    have h1 := Nat.mul_le_mul_right c (show i + 1 ≤ n by omega)
    rw [Nat.succ_mul] at h1
    omega
  have hm : (i * c + j) % c = j := by rw [Nat.mul_comm, Nat.mul_add_mod, Nat.mod_eq_of_lt hj]
  simp only [mk0, madeCells]
  rw [Array.getElem?_map, Array.getElem?_range, if_pos hk]
  simp only [Option.map_some, hz, hm]
  rw [getElem!_def, hv]
theorem VOwn.made (w : World) (B : Nat) (hB : B ≤ w.heap.size) (e : TypeId) (z : Value) (c n : Nat) (F : Nat → Nat → Value) (hz : z.cells.size = c) (hn : n ≤ maxLen) (hF : ∀ i j, j < c → z.cells[j]? = some (F i j)) :
    VOwn B e c (w.alloc (.cells (mk0 z (n * c)) e)) (.slice (some ⟨w.heap.size, 0, none⟩) n n) n F :=
  .inr ⟨w.heap.size, n, mk0 z (n * c), rfl, hB, Box.new _ _ _, Nat.le_refl _, hn, size_madeCells _ _, fun i hi j hj => mk0_at z c n i j _ hz (hF i j hj) hi hj⟩
open Classical in
/-- how many sections and counters a state has at the beginning -/
noncomputable def bNs (sec : Int) (n : Nat) (K : Nat → Nat → Int) : Nat := if layOk sec n K = 0 then sec.toNat else 0
noncomputable def bNd (sec : Int) (n : Nat) (K : Nat → Nat → Int) : Nat := if layOk sec n K = 0 then n else 0
theorem bNs_le (sec : Int) (n : Nat) (K : Nat → Nat → Int) : bNs sec n K ≤ 60 := by
  unfold bNs
  split
  · rename_i h
    have := (layGood h).s2
    omega
  · omega
theorem bNd_le (sec : Int) (n : Nat) (K : Nat → Nat → Int) : bNd sec n K ≤ 120 := by
  unfold bNd
  split
  · rename_i h
    exact (layGood h).m
  · omega
theorem zsec (i j : Nat) (hj : j < 5) : (Value.agg #[.int .i64 0, .int .i64 0, .bool false, .bool false, .int .i64 0]).cells[j]? = some (secF (fun _ => sec0) i j) := by
  rcases (show j = 0 ∨ j = 1 ∨ j = 2 ∨ j = 3 ∨ j = 4 by omega) with rfl | rfl | rfl | rfl | rfl <;> rfl
theorem zbool (i j : Nat) (hj : j < 1) : (Value.bool false).cells[j]? = some (boolF (fun _ => false) i j) := by
  obtain rfl : j = 0 := by omega
  rfl

theorem res42 {fn : Func} {t : Tmp} {w : World} {q : Nat} {v0 v1 v2 : Value} {tmps : Array Value} (h : fn.results = #[.cell t 42]) (ht : tmps.getD t undef = .pointer (some ⟨q, 0, none⟩)) (hB : Box w q 42 #[v0, v1, v2]) : (results fn tmps).run Try.prog w = .ok (.agg #[v0, v1, v2]) w := by
  obtain ⟨r0, r1, r2⟩ := hB.three
  have ht' : tmps[t]?.getD undef = .pointer (some ⟨q, 0, none⟩) := by simpa using ht
  simp [results, h, ht', go_sem, r0, r1, r2]
theorem VOwn.drew {B : Nat} {e : TypeId} {c : Nat} {w : World} {v : Value} {n : Nat} {F : Nat → Nat → Value} (h : VOwn B e c w v n F) : VOwn B e c w.drew v n F := h
theorem StOwn.drew {B : Nat} {w : World} {sa da : Option Addr} {sc dc ns nd : Nat} {S : Nat → Sec} {D : Nat → Bool} (h : StOwn B w sa sc da dc ns nd S D) : StOwn B w.drew sa sc da dc ns nd S D := ⟨h.s, h.d⟩
theorem made2a (V : World) (B m n q : Nat) (hq : V.heap.size = q) (hB : B ≤ q) (hm : m ≤ 60) (hn : n ≤ 120) : StOwn B ((V.alloc (.cells (mk0 (.agg #[.int .i64 0, .int .i64 0, .bool false, .bool false, .int .i64 0]) (m * 5)) 84)).alloc (.cells (mk0 (.bool false) n) 4)) (some ⟨q, 0, none⟩) m (some ⟨q + 1, 0, none⟩) n m n (fun _ => sec0) (fun _ => false) := by
  subst hq
  refine ⟨(VOwn.made V B hB 84 _ 5 m (secF fun _ => sec0) rfl (by simp only [maxLen]; omega) zsec).alloc _, ?_⟩
  have := VOwn.made (V.alloc (.cells (mk0 (.agg #[.int .i64 0, .int .i64 0, .bool false, .bool false, .int .i64 0]) (m * 5)) 84)) B (by simp; omega) 4 (.bool false) 1 n (boolF fun _ => false) rfl (by simp only [maxLen]; omega) zbool
  rw [Nat.mul_one, show (V.alloc (.cells (mk0 (.agg #[.int .i64 0, .int .i64 0, .bool false, .bool false, .int .i64 0]) (m * 5)) 84)).heap.size = V.heap.size + 1 by simp] at this
  exact this
theorem made2b (V : World) (B m n q : Nat) (hq : V.heap.size = q) (hB : B ≤ q) (hm : m ≤ 60) (hn : n ≤ 120) : StOwn B ((V.alloc (.cells (mk0 (.bool false) n) 4)).alloc (.cells (mk0 (.agg #[.int .i64 0, .int .i64 0, .bool false, .bool false, .int .i64 0]) (m * 5)) 84)) (some ⟨q + 1, 0, none⟩) m (some ⟨q, 0, none⟩) n m n (fun _ => sec0) (fun _ => false) := by
  subst hq
  have h1 := (VOwn.made V B hB 4 (.bool false) 1 n (boolF fun _ => false) rfl (by simp only [maxLen]; omega) zbool)
  rw [Nat.mul_one] at h1
  refine ⟨?_, h1.alloc _⟩
  have := VOwn.made (V.alloc (.cells (mk0 (.bool false) n) 4)) B (by simp; omega) 84 (.agg #[.int .i64 0, .int .i64 0, .bool false, .bool false, .int .i64 0]) 5 m (secF fun _ => sec0) rfl (by simp only [maxLen]; omega) zsec
  rw [show (V.alloc (.cells (mk0 (.bool false) n) 4)).heap.size = V.heap.size + 1 by simp] at this
  exact this
theorem beg_post {w : World} {m n : Nat} {K : Nat → Nat → Int} {sa da : Option Addr} {W : World} (hW : Below w.heap.size w W) (h1 : StOwn w.heap.size W sa m da n m n (fun _ => sec0) (fun _ => false)) (E : bNs m n K = m ∧ bNd m n K = n ∧ layOk m n K = 0) :
    ∃ sa' sc' da' dc', (Ending.returned (.agg #[.bool true, .slice sa m m, .slice da n n])) = .returned (.agg #[.bool (decide (layOk m n K = 0)), .slice sa' (bNs m n K) sc', .slice da' (bNd m n K) dc']) ∧ StOwn w.heap.size W sa' sc' da' dc' (bNs m n K) (bNd m n K) (fun _ => sec0) (fun _ => false) ∧ Below w.heap.size w W := by
  rw [E.1, E.2.1, decide_eq_true E.2.2]
  exact ⟨sa, m, da, n, rfl, h1, hW⟩

set_option maxRecDepth 10000 in
set_option maxHeartbeats 4000000 in
theorem begI (sec : Int) (a : Option Addr) (n cap : Nat) (K : Nat → Nat → Int) (w : World) (hn : n ≤ 1048576) (hE : VsAt 2 0 w a n (intF K)) :
    Calls Try.prog 21 #[.agg #[.int .i64 sec, .slice a n cap]] w fun e w' => ∃ sa sc da dc, e = .returned (.agg #[.bool (decide (layOk sec n K = 0)), .slice sa (bNs sec n K) sc, .slice da (bNd sec n K) dc]) ∧ StOwn w.heap.size w' sa sc da dc (bNs sec n K) (bNd sec n K) (fun _ => sec0) (fun _ => false) ∧ Below w.heap.size w w' := by
  have HE : Hid (VsAt 2 0 w a n (intF K)) := hE
  clear hE
  go_enter Try.func21, Try.ntmps21
  go_wp2_with fail
  have B0 := bel2 w (.cells #[.int .i64 sec, .slice a n cap] 29) (.cells #[.bool false, .slice none 0 0, .slice none 0 0] 42)
  have A0 := (Box.new w 29 #[.int .i64 sec, .slice a n cap]).alloc (.cells #[.bool false, .slice none 0 0, .slice none 0 0] 42)
  have R0 := Box.new (w.alloc (.cells #[.int .i64 sec, .slice a n cap] 29)) 42 #[.bool false, .slice none 0 0, .slice none 0 0]
  have z1 : (w.alloc (.cells #[.int .i64 sec, .slice a n cap] 29)).heap.size = w.heap.size + 1 := by simp
  rw [z1] at R0
  refine (layI sec a n cap K _ hn (HE.out.mono (Nat.le_refl _) B0 (Nat.le_refl _))).mono ?_
  rintro e w1 ⟨rfl, hb1⟩
  have A1 := A0.mono hb1 (Nat.le_refl _)
  have R1 := R0.mono hb1 (Nat.le_refl _)
  have B1 := B0.trans (hb1.mono B0.size)
  have c0 : w1.cell? ⟨w.heap.size, 0, none⟩ = some (.int .i64 sec) := A1.cell 0
  have c1 : w1.cell? ⟨w.heap.size, 1, none⟩ = some (.slice a n cap) := A1.cell 1
  have r0 : w1.cell? ⟨w.heap.size + 1, 0, none⟩ = some (.bool false) := R1.cell 0
  have r1 : w1.cell? ⟨w.heap.size + 1, 1, none⟩ = some (.slice none 0 0) := R1.cell 1
  have r2 : w1.cell? ⟨w.heap.size + 1, 2, none⟩ = some (.slice none 0 0) := R1.cell 2
  have f0 := R1.free 0
  have f1 := R1.free 1
  have f2 := R1.free 2
  have y0 : w.heap.size < w1.heap.size := A1.lt
  have y1 : w.heap.size + 1 < w1.heap.size := R1.lt
  have HB : Hid (Below w.heap.size w w1) := B1
  have HR : Hid (Box w1 (w.heap.size + 1) 42 #[.bool false, .slice none 0 0, .slice none 0 0]) := R1
  clear A0 R0 A1 R1 B0 B1 hb1 z1
  have hs : w.heap.size ≤ w.heap.size + 1 := by omega
  by_cases hok : layOk sec n K = 0
  · have hg := layGood hok
    obtain ⟨m, rfl⟩ : ∃ m : Nat, sec = m := ⟨sec.toNat, by have := hg.s1; omega⟩
    have m60 : m ≤ 60 := by have := hg.s2; omega
    have n120 : n ≤ 120 := hg.m
    have e1 : bNs m n K = m := by unfold bNs; rw [if_pos hok]; omega
    have e2 : bNd m n K = n := by unfold bNd; rw [if_pos hok]
    have hmk := make_rows (P := Try.prog) 39 84 _ 32 5 Try.underlying39 infoSection m (by omega) (by omega)
    have hmk2 := make_rows (P := Try.prog) 40 4 _ 1 1 Try.underlying40 infoBool n (by omega) (by omega)
    have E : Hid (bNs m n K = m ∧ bNd m n K = n ∧ layOk m n K = 0) := ⟨e1, e2, hok⟩
    clear hg e1 e2
    rw [hok]
    clear hok
    go_wp2_with fail
    go_region
    all_goals
      go_wp2_with fail
      have bx1 := ((((HR.out.set 0 (.bool true)).set 1 (.slice (some ⟨w1.heap.size, 0, none⟩) m m)).set 2 (.slice (some ⟨w1.heap.size + 1, 0, none⟩) n n)).alloc (.cells (mk0 (.agg #[.int .i64 0, .int .i64 0, .bool false, .bool false, .int .i64 0]) (m * 5)) 84)).alloc (.cells (mk0 (.bool false) (n * 1)) 4)
      have bx2 := ((((HR.out.set 0 (.bool true)).set 1 (.slice (some ⟨w1.heap.size + 1, 0, none⟩) m m)).set 2 (.slice (some ⟨w1.heap.size, 0, none⟩) n n)).alloc (.cells (mk0 (.bool false) (n * 1)) 4)).alloc (.cells (mk0 (.agg #[.int .i64 0, .int .i64 0, .bool false, .bool false, .int .i64 0]) (m * 5)) 84)
      simp only [Nat.mul_one] at bx1 bx2
      have bx1 := bx1.drew
      have bx2 := bx2.drew
      first
        | refine bodyPost_ret (res42 Try.results21 rfl bx1) rfl ?_
        | refine bodyPost_ret (res42 Try.results21 rfl bx2) rfl ?_
      refine beg_post ((((((HB.out.setCell hs _).setCell hs _).setCell hs _).alloc (by simp only [size_setc]; omega) _).alloc (by simp; omega) _).drew) (StOwn.drew ?_) E.out
      first
        | exact made2a _ _ m n w1.heap.size (by simp only [size_setc]) (by omega) m60 n120
        | exact made2b _ _ m n w1.heap.size (by simp only [size_setc]) (by omega) m60 n120
  · have e1 : bNs sec n K = 0 := by unfold bNs; rw [if_neg hok]
    have e2 : bNd sec n K = 0 := by unfold bNd; rw [if_neg hok]
    have E : Hid (bNs sec n K = 0 ∧ bNd sec n K = 0 ∧ ¬ layOk sec n K = 0) := ⟨e1, e2, hok⟩
    clear e1 e2
    generalize layOk sec n K = r at hok
    go_wp2_with fail
    refine bodyPost_ret (v := .agg #[.bool false, .slice none 0 0, .slice none 0 0]) (by simp [results, Try.results21, go_sem, r0, r1, r2]) rfl ⟨none, 0, none, 0, ?_, ?_, ((HB.out.setCell hs _).setCell hs _).setCell hs _⟩
    · rw [E.out.1, E.out.2.1, decide_eq_false E.out.2.2]
    · rw [E.out.1, E.out.2.1]
      exact ⟨VOwn.nil _ _ _ _ _, VOwn.nil _ _ _ _ _⟩

set_option maxRecDepth 10000 in
set_option maxHeartbeats 4000000 in
theorem begS (sec : Int) (a : Option Addr) (n cap : Nat) (K : Nat → Nat → Int) (w : World) (hn : n ≤ 1048576) (hE : VsAt 2 0 w a n (intF K)) :
    Calls Try.prog 20 #[.agg #[.int .i64 sec, .slice a n cap]] w fun e w' => ∃ sa sc da dc, e = .returned (.agg #[.bool (decide (layOk sec n K = 0)), .slice sa (bNs sec n K) sc, .slice da (bNd sec n K) dc]) ∧ StOwn w.heap.size w' sa sc da dc (bNs sec n K) (bNd sec n K) (fun _ => sec0) (fun _ => false) ∧ Below w.heap.size w w' := by
  have HE : Hid (VsAt 2 0 w a n (intF K)) := hE
  clear hE
  go_enter Try.func20, Try.ntmps20
  go_wp2_with fail
  have B0 := bel2 w (.cells #[.int .i64 sec, .slice a n cap] 29) (.cells #[.bool false, .slice none 0 0, .slice none 0 0] 42)
  have A0 := (Box.new w 29 #[.int .i64 sec, .slice a n cap]).alloc (.cells #[.bool false, .slice none 0 0, .slice none 0 0] 42)
  have R0 := Box.new (w.alloc (.cells #[.int .i64 sec, .slice a n cap] 29)) 42 #[.bool false, .slice none 0 0, .slice none 0 0]
  have z1 : (w.alloc (.cells #[.int .i64 sec, .slice a n cap] 29)).heap.size = w.heap.size + 1 := by simp
  rw [z1] at R0
  refine (layS sec a n cap K _ hn (HE.out.mono (Nat.le_refl _) B0 (Nat.le_refl _))).mono ?_
  rintro e w1 ⟨rfl, hb1⟩
  have A1 := A0.mono hb1 (Nat.le_refl _)
  have R1 := R0.mono hb1 (Nat.le_refl _)
  have B1 := B0.trans (hb1.mono B0.size)
  have c0 : w1.cell? ⟨w.heap.size, 0, none⟩ = some (.int .i64 sec) := A1.cell 0
  have c1 : w1.cell? ⟨w.heap.size, 1, none⟩ = some (.slice a n cap) := A1.cell 1
  have r0 : w1.cell? ⟨w.heap.size + 1, 0, none⟩ = some (.bool false) := R1.cell 0
  have r1 : w1.cell? ⟨w.heap.size + 1, 1, none⟩ = some (.slice none 0 0) := R1.cell 1
  have r2 : w1.cell? ⟨w.heap.size + 1, 2, none⟩ = some (.slice none 0 0) := R1.cell 2
  have f0 := R1.free 0
  have f1 := R1.free 1
  have f2 := R1.free 2
  have y0 : w.heap.size < w1.heap.size := A1.lt
  have y1 : w.heap.size + 1 < w1.heap.size := R1.lt
  have HB : Hid (Below w.heap.size w w1) := B1
  have HR : Hid (Box w1 (w.heap.size + 1) 42 #[.bool false, .slice none 0 0, .slice none 0 0]) := R1
  clear A0 R0 A1 R1 B0 B1 hb1 z1
  have hs : w.heap.size ≤ w.heap.size + 1 := by omega
  by_cases hok : layOk sec n K = 0
  · have hg := layGood hok
    obtain ⟨m, rfl⟩ : ∃ m : Nat, sec = m := ⟨sec.toNat, by have := hg.s1; omega⟩
    have m60 : m ≤ 60 := by have := hg.s2; omega
    have n120 : n ≤ 120 := hg.m
    have e1 : bNs m n K = m := by unfold bNs; rw [if_pos hok]; omega
    have e2 : bNd m n K = n := by unfold bNd; rw [if_pos hok]
    have hmk := make_rows (P := Try.prog) 39 84 _ 32 5 Try.underlying39 infoSection m (by omega) (by omega)
    have hmk2 := make_rows (P := Try.prog) 40 4 _ 1 1 Try.underlying40 infoBool n (by omega) (by omega)
    have E : Hid (bNs m n K = m ∧ bNd m n K = n ∧ layOk m n K = 0) := ⟨e1, e2, hok⟩
    clear hg e1 e2
    rw [hok]
    clear hok
    go_wp2_with fail
    go_region
    all_goals
      go_wp2_with fail
      have bx1 := ((((HR.out.set 0 (.bool true)).set 1 (.slice (some ⟨w1.heap.size, 0, none⟩) m m)).set 2 (.slice (some ⟨w1.heap.size + 1, 0, none⟩) n n)).alloc (.cells (mk0 (.agg #[.int .i64 0, .int .i64 0, .bool false, .bool false, .int .i64 0]) (m * 5)) 84)).alloc (.cells (mk0 (.bool false) (n * 1)) 4)
      have bx2 := ((((HR.out.set 0 (.bool true)).set 1 (.slice (some ⟨w1.heap.size + 1, 0, none⟩) m m)).set 2 (.slice (some ⟨w1.heap.size, 0, none⟩) n n)).alloc (.cells (mk0 (.bool false) (n * 1)) 4)).alloc (.cells (mk0 (.agg #[.int .i64 0, .int .i64 0, .bool false, .bool false, .int .i64 0]) (m * 5)) 84)
      simp only [Nat.mul_one] at bx1 bx2
      have bx1 := bx1.drew
      have bx2 := bx2.drew
      first
        | refine bodyPost_ret (res42 Try.results20 rfl bx1) rfl ?_
        | refine bodyPost_ret (res42 Try.results20 rfl bx2) rfl ?_
      refine beg_post ((((((HB.out.setCell hs _).setCell hs _).setCell hs _).alloc (by simp only [size_setc]; omega) _).alloc (by simp; omega) _).drew) (StOwn.drew ?_) E.out
      first
        | exact made2a _ _ m n w1.heap.size (by simp only [size_setc]) (by omega) m60 n120
        | exact made2b _ _ m n w1.heap.size (by simp only [size_setc]) (by omega) m60 n120
  · have e1 : bNs sec n K = 0 := by unfold bNs; rw [if_neg hok]
    have e2 : bNd sec n K = 0 := by unfold bNd; rw [if_neg hok]
    have E : Hid (bNs sec n K = 0 ∧ bNd sec n K = 0 ∧ ¬ layOk sec n K = 0) := ⟨e1, e2, hok⟩
    clear e1 e2
    generalize layOk sec n K = r at hok
    go_wp2_with fail
    refine bodyPost_ret (v := .agg #[.bool false, .slice none 0 0, .slice none 0 0]) (by simp [results, Try.results20, go_sem, r0, r1, r2]) rfl ⟨none, 0, none, 0, ?_, ?_, ((HB.out.setCell hs _).setCell hs _).setCell hs _⟩
    · rw [E.out.1, E.out.2.1, decide_eq_false E.out.2.2]
    · rw [E.out.1, E.out.2.1]
      exact ⟨VOwn.nil _ _ _ _ _, VOwn.nil _ _ _ _ _⟩

end Go.Proofs.Ytmcaohablpaknaa
