import Derived.Test.YtmcaohablpaknaaWd
namespace Go.Proofs.Ytmcaohablpaknaa
open Go.RowKit Go.ChangeShapes Go.WideShapes

set_option maxRecDepth 100000 in
set_option maxHeartbeats 8000000 in
theorem doS_bad (sec : Int) (a : Option Addr) (n cap : Nat) (K : Nat → Nat → Int) (ok : Bool) (sa da : Option Addr) (ns nd sc dc : Nat) (S : Nat → Sec) (D : Nat → Bool) (op of dir : Int) (w : World) (hn : n ≤ 1048576) (hns : ns ≤ 1048576) (hnd : nd ≤ 1048576) (hE : VsAt 2 0 w a n (intF K)) (hS : VsAt 5 0 w sa ns (secF S)) (hD : VsAt 1 0 w da nd (boolF D)) (hv : dV sec n K ok ns nd S D op of dir = false) :
    Calls Try.prog 29 #[.agg #[.int .i64 sec, .slice a n cap], .agg #[.bool ok, .slice sa ns sc, .slice da nd dc], .agg #[.int .i64 op, .int .i64 of, .int .i64 dir]] w fun e w' => ∃ sa' sc' da' dc', e = .returned (.agg #[.int .i64 1, .bool false, .slice sa' 0 sc', .slice da' 0 dc']) ∧ StOwn w.heap.size w' sa' sc' da' dc' 0 0 (fun _ => sec0) (fun _ => false) ∧ Below w.heap.size w w' := by
  have HV : Hid (coB sec n K ok ns nd S D = true → evB sec n op of dir = false) := fun h => by unfold dV at hv; rw [h] at hv; simpa using hv
  clear hv
  have HE0 : Hid (VsAt 2 0 w a n (intF K) ∧ VsAt 5 0 w sa ns (secF S) ∧ VsAt 1 0 w da nd (boolF D)) := ⟨hE, hS, hD⟩
  clear hE hS hD
  go_enter Try.func29, Try.ntmps29
  go_wp2_with fail
  have HB0 : Hid (Below w.heap.size w ((((w.alloc (.cells #[.int .i64 sec, .slice a n cap] 29)).alloc (.cells #[.bool ok, .slice sa ns sc, .slice da nd dc] 42)).alloc (.cells #[.int .i64 op, .int .i64 of, .int .i64 dir] 49)).alloc (.cells #[.int .i64 0, .bool false, .slice none 0 0, .slice none 0 0] 57)) ∧ Box ((((w.alloc (.cells #[.int .i64 sec, .slice a n cap] 29)).alloc (.cells #[.bool ok, .slice sa ns sc, .slice da nd dc] 42)).alloc (.cells #[.int .i64 op, .int .i64 of, .int .i64 dir] 49)).alloc (.cells #[.int .i64 0, .bool false, .slice none 0 0, .slice none 0 0] 57)) w.heap.size 29 #[.int .i64 sec, .slice a n cap] ∧ Box ((((w.alloc (.cells #[.int .i64 sec, .slice a n cap] 29)).alloc (.cells #[.bool ok, .slice sa ns sc, .slice da nd dc] 42)).alloc (.cells #[.int .i64 op, .int .i64 of, .int .i64 dir] 49)).alloc (.cells #[.int .i64 0, .bool false, .slice none 0 0, .slice none 0 0] 57)) (w.heap.size + 1) 42 #[.bool ok, .slice sa ns sc, .slice da nd dc] ∧ Box ((((w.alloc (.cells #[.int .i64 sec, .slice a n cap] 29)).alloc (.cells #[.bool ok, .slice sa ns sc, .slice da nd dc] 42)).alloc (.cells #[.int .i64 op, .int .i64 of, .int .i64 dir] 49)).alloc (.cells #[.int .i64 0, .bool false, .slice none 0 0, .slice none 0 0] 57)) (w.heap.size + 1 + 1) 49 #[.int .i64 op, .int .i64 of, .int .i64 dir] ∧ Box ((((w.alloc (.cells #[.int .i64 sec, .slice a n cap] 29)).alloc (.cells #[.bool ok, .slice sa ns sc, .slice da nd dc] 42)).alloc (.cells #[.int .i64 op, .int .i64 of, .int .i64 dir] 49)).alloc (.cells #[.int .i64 0, .bool false, .slice none 0 0, .slice none 0 0] 57)) (w.heap.size + 1 + 1 + 1) 57 #[.int .i64 0, .bool false, .slice none 0 0, .slice none 0 0]) := ⟨bel4 w (.cells #[.int .i64 sec, .slice a n cap] 29) (.cells #[.bool ok, .slice sa ns sc, .slice da nd dc] 42) (.cells #[.int .i64 op, .int .i64 of, .int .i64 dir] 49) (.cells #[.int .i64 0, .bool false, .slice none 0 0, .slice none 0 0] 57), (((Box.newq w 29 #[.int .i64 sec, .slice a n cap] rfl).alloc (.cells #[.bool ok, .slice sa ns sc, .slice da nd dc] 42)).alloc (.cells #[.int .i64 op, .int .i64 of, .int .i64 dir] 49)).alloc (.cells #[.int .i64 0, .bool false, .slice none 0 0, .slice none 0 0] 57), ((Box.newq (w.alloc (.cells #[.int .i64 sec, .slice a n cap] 29)) 42 #[.bool ok, .slice sa ns sc, .slice da nd dc] (q := w.heap.size + 1) (by simp)).alloc (.cells #[.int .i64 op, .int .i64 of, .int .i64 dir] 49)).alloc (.cells #[.int .i64 0, .bool false, .slice none 0 0, .slice none 0 0] 57), (Box.newq ((w.alloc (.cells #[.int .i64 sec, .slice a n cap] 29)).alloc (.cells #[.bool ok, .slice sa ns sc, .slice da nd dc] 42)) 49 #[.int .i64 op, .int .i64 of, .int .i64 dir] (q := w.heap.size + 1 + 1) (by simp)).alloc (.cells #[.int .i64 0, .bool false, .slice none 0 0, .slice none 0 0] 57), Box.newq (((w.alloc (.cells #[.int .i64 sec, .slice a n cap] 29)).alloc (.cells #[.bool ok, .slice sa ns sc, .slice da nd dc] 42)).alloc (.cells #[.int .i64 op, .int .i64 of, .int .i64 dir] 49)) 57 #[.int .i64 0, .bool false, .slice none 0 0, .slice none 0 0] (q := w.heap.size + 1 + 1 + 1) (by simp)⟩
  refine (coS sec a n cap K ok sa da ns nd sc dc S D _ hn hns hnd (HE0.out.1.mono (Nat.le_refl _) HB0.out.1 (Nat.le_refl _)) (HE0.out.2.1.mono (Nat.le_refl _) HB0.out.1 (Nat.le_refl _)) (HE0.out.2.2.mono (Nat.le_refl _) HB0.out.1 (Nat.le_refl _))).mono ?_
  rintro e w1 ⟨rfl, hb1⟩
  have H1 : Hid (Below w.heap.size w w1 ∧ Box w1 w.heap.size 29 #[.int .i64 sec, .slice a n cap] ∧ Box w1 (w.heap.size + 1) 42 #[.bool ok, .slice sa ns sc, .slice da nd dc] ∧ Box w1 (w.heap.size + 1 + 1) 49 #[.int .i64 op, .int .i64 of, .int .i64 dir] ∧ Box w1 (w.heap.size + 1 + 1 + 1) 57 #[.int .i64 0, .bool false, .slice none 0 0, .slice none 0 0]) := ⟨HB0.out.1.trans (hb1.mono HB0.out.1.size), HB0.out.2.1.mono hb1 (Nat.le_refl _), HB0.out.2.2.1.mono hb1 (Nat.le_refl _), HB0.out.2.2.2.1.mono hb1 (Nat.le_refl _), HB0.out.2.2.2.2.mono hb1 (Nat.le_refl _)⟩
  clear hb1
  have hp : w.heap.size ≤ w.heap.size + 1 + 1 + 1 := by omega
  have l0 : w1.cell? ⟨w.heap.size, 0, none⟩ = some (.int .i64 sec) := H1.out.2.1.cell 0
  have l1 : w1.cell? ⟨w.heap.size, 1, none⟩ = some (.slice a n cap) := H1.out.2.1.cell 1
  have t0 : w1.cell? ⟨w.heap.size + 1, 0, none⟩ = some (.bool ok) := H1.out.2.2.1.cell 0
  have t1 : w1.cell? ⟨w.heap.size + 1, 1, none⟩ = some (.slice sa ns sc) := H1.out.2.2.1.cell 1
  have t2 : w1.cell? ⟨w.heap.size + 1, 2, none⟩ = some (.slice da nd dc) := H1.out.2.2.1.cell 2
  have e0 : w1.cell? ⟨w.heap.size + 1 + 1, 0, none⟩ = some (.int .i64 op) := H1.out.2.2.2.1.cell 0
  have e1 : w1.cell? ⟨w.heap.size + 1 + 1, 1, none⟩ = some (.int .i64 of) := H1.out.2.2.2.1.cell 1
  have e2 : w1.cell? ⟨w.heap.size + 1 + 1, 2, none⟩ = some (.int .i64 dir) := H1.out.2.2.2.1.cell 2
  have r0 : w1.cell? ⟨w.heap.size + 1 + 1 + 1, 0, none⟩ = some (.int .i64 0) := H1.out.2.2.2.2.cell 0
  have r1 : w1.cell? ⟨w.heap.size + 1 + 1 + 1, 1, none⟩ = some (.bool false) := H1.out.2.2.2.2.cell 1
  have r2 : w1.cell? ⟨w.heap.size + 1 + 1 + 1, 2, none⟩ = some (.slice none 0 0) := H1.out.2.2.2.2.cell 2
  have r3 : w1.cell? ⟨w.heap.size + 1 + 1 + 1, 3, none⟩ = some (.slice none 0 0) := H1.out.2.2.2.2.cell 3
  have g0 := H1.out.2.2.2.2.free 0
  have g1 := H1.out.2.2.2.2.free 1
  have g2 := H1.out.2.2.2.2.free 2
  have g3 := H1.out.2.2.2.2.free 3
  obtain ⟨d, hd⟩ : ∃ d, Hid (coB sec n K ok ns nd S D = d) := ⟨_, rfl⟩
  rw [hd.out]
  cases d
  · go_wp2_with fail
    refine bodyPost_ret (res57 Try.results29 rfl (((((H1.out.2.2.2.2.set 0 (.int .i64 1)).set 1 (.bool false)).set 2 (.slice none 0 0)).set 3 (.slice none 0 0)))) rfl ⟨none, 0, none, 0, rfl, ⟨VOwn.nil _ _ _ _ _, VOwn.nil _ _ _ _ _⟩, (((H1.out.1.setCell hp _).setCell hp _).setCell hp _).setCell hp _⟩
  · have HVf : Hid ((decide (layOk sec n K = 0) && evB sec n op of dir) = false) := by
      show (_ && _) = false
      rw [HV.out hd.out]
      simp
    go_wp2_with fail
    clear l0 l1 t0 t1 t2 e0 e1 e2 r0 r1 r2 r3 g0 g1 g2 g3
    refine (evS sec a n cap K op of dir _ hn (HE0.out.1.mono (Nat.le_refl _) H1.out.1 (Nat.le_refl _))).mono ?_
    rintro e w2 ⟨rfl, hb2⟩
    rw [HVf.out]
    have H2 : Hid (Below w.heap.size w w2 ∧ Box w2 w.heap.size 29 #[.int .i64 sec, .slice a n cap] ∧ Box w2 (w.heap.size + 1) 42 #[.bool ok, .slice sa ns sc, .slice da nd dc] ∧ Box w2 (w.heap.size + 1 + 1) 49 #[.int .i64 op, .int .i64 of, .int .i64 dir] ∧ Box w2 (w.heap.size + 1 + 1 + 1) 57 #[.int .i64 0, .bool false, .slice none 0 0, .slice none 0 0]) := ⟨H1.out.1.trans (hb2.mono H1.out.1.size), H1.out.2.1.mono hb2 (Nat.le_refl _), H1.out.2.2.1.mono hb2 (Nat.le_refl _), H1.out.2.2.2.1.mono hb2 (Nat.le_refl _), H1.out.2.2.2.2.mono hb2 (Nat.le_refl _)⟩
    clear hb2
    have l0 : w2.cell? ⟨w.heap.size, 0, none⟩ = some (.int .i64 sec) := H2.out.2.1.cell 0
    have l1 : w2.cell? ⟨w.heap.size, 1, none⟩ = some (.slice a n cap) := H2.out.2.1.cell 1
    have t0 : w2.cell? ⟨w.heap.size + 1, 0, none⟩ = some (.bool ok) := H2.out.2.2.1.cell 0
    have t1 : w2.cell? ⟨w.heap.size + 1, 1, none⟩ = some (.slice sa ns sc) := H2.out.2.2.1.cell 1
    have t2 : w2.cell? ⟨w.heap.size + 1, 2, none⟩ = some (.slice da nd dc) := H2.out.2.2.1.cell 2
    have e0 : w2.cell? ⟨w.heap.size + 1 + 1, 0, none⟩ = some (.int .i64 op) := H2.out.2.2.2.1.cell 0
    have e1 : w2.cell? ⟨w.heap.size + 1 + 1, 1, none⟩ = some (.int .i64 of) := H2.out.2.2.2.1.cell 1
    have e2 : w2.cell? ⟨w.heap.size + 1 + 1, 2, none⟩ = some (.int .i64 dir) := H2.out.2.2.2.1.cell 2
    have r0 : w2.cell? ⟨w.heap.size + 1 + 1 + 1, 0, none⟩ = some (.int .i64 0) := H2.out.2.2.2.2.cell 0
    have r1 : w2.cell? ⟨w.heap.size + 1 + 1 + 1, 1, none⟩ = some (.bool false) := H2.out.2.2.2.2.cell 1
    have r2 : w2.cell? ⟨w.heap.size + 1 + 1 + 1, 2, none⟩ = some (.slice none 0 0) := H2.out.2.2.2.2.cell 2
    have r3 : w2.cell? ⟨w.heap.size + 1 + 1 + 1, 3, none⟩ = some (.slice none 0 0) := H2.out.2.2.2.2.cell 3
    have g0 := H2.out.2.2.2.2.free 0
    have g1 := H2.out.2.2.2.2.free 1
    have g2 := H2.out.2.2.2.2.free 2
    have g3 := H2.out.2.2.2.2.free 3
    go_wp2_with fail
    refine bodyPost_ret (res57 Try.results29 rfl (((((H2.out.2.2.2.2.set 0 (.int .i64 1)).set 1 (.bool false)).set 2 (.slice none 0 0)).set 3 (.slice none 0 0)))) rfl ⟨none, 0, none, 0, rfl, ⟨VOwn.nil _ _ _ _ _, VOwn.nil _ _ _ _ _⟩, (((H2.out.1.setCell hp _).setCell hp _).setCell hp _).setCell hp _⟩

end Go.Proofs.Ytmcaohablpaknaa
