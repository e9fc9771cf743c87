import Derived.Test.YtmcaohablpaknaaWe
import Derived.Test.YtmcaohablpaknaaBg
import Derived.Deep.RegionHeld3
namespace Go.Proofs.Ytmcaohablpaknaa
open Go.RowKit Go.ChangeShapes Go.WideShapes

theorem Box.four {w : World} {b : Nat} {T : TypeId} {u v x y : Value} (h : Box w b T #[u, v, x, y]) : w.cell? ⟨b, 0, none⟩ = some u ∧ w.cell? ⟨b, 1, none⟩ = some v ∧ w.cell? ⟨b, 2, none⟩ = some x ∧ w.cell? ⟨b, 3, none⟩ = some y := ⟨h.cell 0, h.cell 1, h.cell 2, h.cell 3⟩
theorem res57 {fn : Func} {t : Tmp} {w : World} {q : Nat} {v0 v1 v2 v3 : Value} {tmps : Array Value} (h : fn.results = #[.cell t 57]) (ht : tmps.getD t undef = .pointer (some ⟨q, 0, none⟩)) (hB : Box w q 57 #[v0, v1, v2, v3]) : (results fn tmps).run Try.prog w = .ok (.agg #[v0, v1, v2, v3]) w := by
  obtain ⟨r0, r1, r2, r3⟩ := hB.four
  have ht' : tmps[t]?.getD undef = .pointer (some ⟨q, 0, none⟩) := by simpa using ht
  simp [results, h, ht', go_sem, r0, r1, r2, r3]

set_option maxRecDepth 100000 in
set_option maxHeartbeats 8000000 in
theorem doI_bad (sec : Int) (a : Option Addr) (n cap : Nat) (K : Nat → Nat → Int) (ok : Bool) (sb db : Nat) (ns nd sc dc : Nat) (S : Nat → Sec) (D : Nat → Bool) (op of dir : Int) (w : World) (hn : n ≤ 1048576) (hns : ns ≤ 1048576) (hnd : nd ≤ 1048576) (hE : VsAt 2 0 w a n (intF K)) (hS : VsAt 5 0 w (some ⟨sb, 0, none⟩) ns (secF S)) (hD : VsAt 1 0 w (some ⟨db, 0, none⟩) nd (boolF D)) (hv : dV sec n K ok ns nd S D op of dir = false) :
    Calls Try.prog 31 #[.agg #[.int .i64 sec, .slice a n cap], .agg #[.bool ok, .slice (some ⟨sb, 0, none⟩) ns sc, .slice (some ⟨db, 0, none⟩) nd dc], .agg #[.int .i64 op, .int .i64 of, .int .i64 dir]] w fun e w' => ∃ sa' sc' da' dc', e = .returned (.agg #[.int .i64 1, .bool false, .slice sa' 0 sc', .slice da' 0 dc']) ∧ StOwn w.heap.size w' sa' sc' da' dc' 0 0 (fun _ => sec0) (fun _ => false) ∧ Below w.heap.size w w' := by
  have HV : Hid (coB sec n K ok ns nd S D = true → evB sec n op of dir = false) := fun h => by unfold dV at hv; rw [h] at hv; simpa using hv
  clear hv
  have HE0 : Hid (VsAt 2 0 w a n (intF K) ∧ VsAt 5 0 w (some ⟨sb, 0, none⟩) ns (secF S) ∧ VsAt 1 0 w (some ⟨db, 0, none⟩) nd (boolF D)) := ⟨hE, hS, hD⟩
  clear hE hS hD
  go_enter Try.func31, Try.ntmps31
  go_wp2_with fail
  have B0 := bel4 w (.cells #[.int .i64 sec, .slice a n cap] 29) (.cells #[.bool ok, .slice (some ⟨sb, 0, none⟩) ns sc, .slice (some ⟨db, 0, none⟩) nd dc] 42) (.cells #[.int .i64 op, .int .i64 of, .int .i64 dir] 49) (.cells #[.int .i64 0, .bool false, .slice none 0 0, .slice none 0 0] 57)
  have L0 := (((Box.newq w 29 #[.int .i64 sec, .slice a n cap] rfl).alloc (.cells #[.bool ok, .slice (some ⟨sb, 0, none⟩) ns sc, .slice (some ⟨db, 0, none⟩) nd dc] 42)).alloc (.cells #[.int .i64 op, .int .i64 of, .int .i64 dir] 49)).alloc (.cells #[.int .i64 0, .bool false, .slice none 0 0, .slice none 0 0] 57)
  have E0 := (Box.newq ((w.alloc (.cells #[.int .i64 sec, .slice a n cap] 29)).alloc (.cells #[.bool ok, .slice (some ⟨sb, 0, none⟩) ns sc, .slice (some ⟨db, 0, none⟩) nd dc] 42)) 49 #[.int .i64 op, .int .i64 of, .int .i64 dir] (q := w.heap.size + 1 + 1) (by simp)).alloc (.cells #[.int .i64 0, .bool false, .slice none 0 0, .slice none 0 0] 57)
  have R0 := Box.newq (((w.alloc (.cells #[.int .i64 sec, .slice a n cap] 29)).alloc (.cells #[.bool ok, .slice (some ⟨sb, 0, none⟩) ns sc, .slice (some ⟨db, 0, none⟩) nd dc] 42)).alloc (.cells #[.int .i64 op, .int .i64 of, .int .i64 dir] 49)) 57 #[.int .i64 0, .bool false, .slice none 0 0, .slice none 0 0] (q := w.heap.size + 1 + 1 + 1) (by simp)
  have HB0 : Hid (Below w.heap.size w ((((w.alloc (.cells #[.int .i64 sec, .slice a n cap] 29)).alloc (.cells #[.bool ok, .slice (some ⟨sb, 0, none⟩) ns sc, .slice (some ⟨db, 0, none⟩) nd dc] 42)).alloc (.cells #[.int .i64 op, .int .i64 of, .int .i64 dir] 49)).alloc (.cells #[.int .i64 0, .bool false, .slice none 0 0, .slice none 0 0] 57)) ∧ Box ((((w.alloc (.cells #[.int .i64 sec, .slice a n cap] 29)).alloc (.cells #[.bool ok, .slice (some ⟨sb, 0, none⟩) ns sc, .slice (some ⟨db, 0, none⟩) nd dc] 42)).alloc (.cells #[.int .i64 op, .int .i64 of, .int .i64 dir] 49)).alloc (.cells #[.int .i64 0, .bool false, .slice none 0 0, .slice none 0 0] 57)) w.heap.size 29 #[.int .i64 sec, .slice a n cap] ∧ Box ((((w.alloc (.cells #[.int .i64 sec, .slice a n cap] 29)).alloc (.cells #[.bool ok, .slice (some ⟨sb, 0, none⟩) ns sc, .slice (some ⟨db, 0, none⟩) nd dc] 42)).alloc (.cells #[.int .i64 op, .int .i64 of, .int .i64 dir] 49)).alloc (.cells #[.int .i64 0, .bool false, .slice none 0 0, .slice none 0 0] 57)) (w.heap.size + 1 + 1) 49 #[.int .i64 op, .int .i64 of, .int .i64 dir] ∧ Box ((((w.alloc (.cells #[.int .i64 sec, .slice a n cap] 29)).alloc (.cells #[.bool ok, .slice (some ⟨sb, 0, none⟩) ns sc, .slice (some ⟨db, 0, none⟩) nd dc] 42)).alloc (.cells #[.int .i64 op, .int .i64 of, .int .i64 dir] 49)).alloc (.cells #[.int .i64 0, .bool false, .slice none 0 0, .slice none 0 0] 57)) (w.heap.size + 1 + 1 + 1) 57 #[.int .i64 0, .bool false, .slice none 0 0, .slice none 0 0]) := ⟨B0, L0, E0, R0⟩
  clear B0 L0 E0 R0
  refine (cntI sec a n cap K ok sb db ns nd sc dc S D _ hn hns hnd (HE0.out.1.mono (Nat.le_refl _) HB0.out.1 (Nat.le_refl _)) (HE0.out.2.1.mono (Nat.le_refl _) HB0.out.1 (Nat.le_refl _)) (HE0.out.2.2.mono (Nat.le_refl _) HB0.out.1 (Nat.le_refl _))).mono ?_
  rintro e w1 ⟨p, rfl, hR, hb1⟩
  have H1 : Hid (Below w.heap.size w w1 ∧ Box w1 w.heap.size 29 #[.int .i64 sec, .slice a n cap] ∧ Box w1 (w.heap.size + 1 + 1) 49 #[.int .i64 op, .int .i64 of, .int .i64 dir] ∧ Box w1 (w.heap.size + 1 + 1 + 1) 57 #[.int .i64 0, .bool false, .slice none 0 0, .slice none 0 0]) := ⟨HB0.out.1.trans (hb1.mono HB0.out.1.size), HB0.out.2.1.mono hb1 (Nat.le_refl _), HB0.out.2.2.1.mono hb1 (Nat.le_refl _), HB0.out.2.2.2.mono hb1 (Nat.le_refl _)⟩
  have hp : w.heap.size ≤ w.heap.size + 1 + 1 + 1 := by omega
  have l0 : w1.cell? ⟨w.heap.size, 0, none⟩ = some (.int .i64 sec) := H1.out.2.1.cell 0
  have l1 : w1.cell? ⟨w.heap.size, 1, none⟩ = some (.slice a n cap) := H1.out.2.1.cell 1
  have e0 : w1.cell? ⟨w.heap.size + 1 + 1, 0, none⟩ = some (.int .i64 op) := H1.out.2.2.1.cell 0
  have e1 : w1.cell? ⟨w.heap.size + 1 + 1, 1, none⟩ = some (.int .i64 of) := H1.out.2.2.1.cell 1
  have e2 : w1.cell? ⟨w.heap.size + 1 + 1, 2, none⟩ = some (.int .i64 dir) := H1.out.2.2.1.cell 2
  have r0 : w1.cell? ⟨w.heap.size + 1 + 1 + 1, 0, none⟩ = some (.int .i64 0) := H1.out.2.2.2.cell 0
  have r1 : w1.cell? ⟨w.heap.size + 1 + 1 + 1, 1, none⟩ = some (.bool false) := H1.out.2.2.2.cell 1
  have r2 : w1.cell? ⟨w.heap.size + 1 + 1 + 1, 2, none⟩ = some (.slice none 0 0) := H1.out.2.2.2.cell 2
  have r3 : w1.cell? ⟨w.heap.size + 1 + 1 + 1, 3, none⟩ = some (.slice none 0 0) := H1.out.2.2.2.cell 3
  have g0 := H1.out.2.2.2.free 0
  have g1 := H1.out.2.2.2.free 1
  have g2 := H1.out.2.2.2.free 2
  have g3 := H1.out.2.2.2.free 3
  rcases hR with ⟨h1, rfl⟩ | ⟨h1, c, b, sa, s', da, d', rfl, hc1, hc2, hct, hst⟩
  · clear h1 hb1 HB0
    go_wp2_with fail
    refine bodyPost_ret (res57 Try.results31 rfl (((((H1.out.2.2.2.set 0 (.int .i64 1)).set 1 (.bool false)).set 2 (.slice none 0 0)).set 3 (.slice none 0 0)))) rfl ⟨none, 0, none, 0, rfl, ⟨VOwn.nil _ _ _ _ _, VOwn.nil _ _ _ _ _⟩, (((H1.out.1.setCell hp _).setCell hp _).setCell hp _).setCell hp _⟩
  · have HVf : Hid ((decide (layOk sec n K = 0) && evB sec n op of dir) = false) := by
      show (_ && _) = false
      rw [HV.out h1]
      simp
    clear h1 hb1 HB0 hct hst hc1 hc2
    go_wp2_with fail
    clear l0 l1 e0 e1 e2 r0 r1 r2 r3 g0 g1 g2 g3
    refine (evI sec a n cap K op of dir _ hn (HE0.out.1.mono (Nat.le_refl _) H1.out.1 (Nat.le_refl _))).mono ?_
    rintro e w2 ⟨rfl, hb2⟩
    rw [HVf.out]
    have H2 : Hid (Below w.heap.size w w2 ∧ Box w2 w.heap.size 29 #[.int .i64 sec, .slice a n cap] ∧ Box w2 (w.heap.size + 1 + 1) 49 #[.int .i64 op, .int .i64 of, .int .i64 dir] ∧ Box w2 (w.heap.size + 1 + 1 + 1) 57 #[.int .i64 0, .bool false, .slice none 0 0, .slice none 0 0]) := ⟨H1.out.1.trans (hb2.mono H1.out.1.size), H1.out.2.1.mono hb2 (Nat.le_refl _), H1.out.2.2.1.mono hb2 (Nat.le_refl _), H1.out.2.2.2.mono hb2 (Nat.le_refl _)⟩
    clear hb2
    have l0 : w2.cell? ⟨w.heap.size, 0, none⟩ = some (.int .i64 sec) := H2.out.2.1.cell 0
    have l1 : w2.cell? ⟨w.heap.size, 1, none⟩ = some (.slice a n cap) := H2.out.2.1.cell 1
    have e0 : w2.cell? ⟨w.heap.size + 1 + 1, 0, none⟩ = some (.int .i64 op) := H2.out.2.2.1.cell 0
    have e1 : w2.cell? ⟨w.heap.size + 1 + 1, 1, none⟩ = some (.int .i64 of) := H2.out.2.2.1.cell 1
    have e2 : w2.cell? ⟨w.heap.size + 1 + 1, 2, none⟩ = some (.int .i64 dir) := H2.out.2.2.1.cell 2
    have r0 : w2.cell? ⟨w.heap.size + 1 + 1 + 1, 0, none⟩ = some (.int .i64 0) := H2.out.2.2.2.cell 0
    have r1 : w2.cell? ⟨w.heap.size + 1 + 1 + 1, 1, none⟩ = some (.bool false) := H2.out.2.2.2.cell 1
    have r2 : w2.cell? ⟨w.heap.size + 1 + 1 + 1, 2, none⟩ = some (.slice none 0 0) := H2.out.2.2.2.cell 2
    have r3 : w2.cell? ⟨w.heap.size + 1 + 1 + 1, 3, none⟩ = some (.slice none 0 0) := H2.out.2.2.2.cell 3
    have g0 := H2.out.2.2.2.free 0
    have g1 := H2.out.2.2.2.free 1
    have g2 := H2.out.2.2.2.free 2
    have g3 := H2.out.2.2.2.free 3
    go_wp2_with fail
    refine bodyPost_ret (res57 Try.results31 rfl (((((H2.out.2.2.2.set 0 (.int .i64 1)).set 1 (.bool false)).set 2 (.slice none 0 0)).set 3 (.slice none 0 0)))) rfl ⟨none, 0, none, 0, rfl, ⟨VOwn.nil _ _ _ _ _, VOwn.nil _ _ _ _ _⟩, (((H2.out.1.setCell hp _).setCell hp _).setCell hp _).setCell hp _⟩
theorem evB_cases {sec : Int} {n : Nat} {op of dir : Int} (h : evB sec n op of dir = true) :
    (op = 1 ∧ 0 ≤ of ∧ of < n) ∨ (op = 2 ∧ 0 ≤ of ∧ of < n) ∨ (op = 3 ∧ 0 ≤ of ∧ of < n ∧ dir = 0) ∨ (op = 4 ∧ 0 ≤ of ∧ of < n) ∨ (op = 5 ∧ 0 ≤ of ∧ of < sec) := by
  unfold evB at h
  by_cases h1 : op = 1
  · rw [if_pos (Or.inl h1)] at h
    simp only [Bool.and_eq_true, decide_eq_true_eq] at h
    exact .inl ⟨h1, by omega, by omega⟩
  · by_cases h2 : op = 2
    · rw [if_pos (Or.inr h2)] at h
      simp only [Bool.and_eq_true, decide_eq_true_eq] at h
      exact .inr (.inl ⟨h2, by omega, by omega⟩)
    · rw [if_neg (by omega)] at h
      by_cases h3 : op = 3
      · rw [if_pos (Or.inl h3)] at h
        simp only [Bool.and_eq_true, decide_eq_true_eq] at h
        exact .inr (.inr (.inl ⟨h3, by omega, by omega, h.2⟩))
      · by_cases h4 : op = 4
        · rw [if_pos (Or.inr h4)] at h
          simp only [Bool.and_eq_true, decide_eq_true_eq] at h
          exact .inr (.inr (.inr (.inl ⟨h4, by omega, by omega⟩)))
        · rw [if_neg (by omega)] at h
          by_cases h5 : op = 5
          · rw [if_pos h5] at h
            simp only [Bool.and_eq_true, decide_eq_true_eq] at h
            exact .inr (.inr (.inr (.inr ⟨h5, by omega, by omega⟩)))
          · rw [if_neg h5] at h
            cases h

end Go.Proofs.Ytmcaohablpaknaa
