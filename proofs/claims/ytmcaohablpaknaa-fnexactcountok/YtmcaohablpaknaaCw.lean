import Derived.Test.YtmcaohablpaknaaCc
namespace Go.Proofs.Ytmcaohablpaknaa
open Go.RowKit Go.ChangeShapes Go.WideShapes

set_option maxRecDepth 100000 in
set_option maxHeartbeats 4000000 in
theorem coI (sec : Int) (a : Option Addr) (n cap : Nat) (K : Nat → Nat → Int) (ok : Bool) (sb db : Nat) (ns nd sc dc : Nat) (S : Nat → Sec) (D : Nat → Bool) (w : World) (hn : n ≤ 1048576) (hns : ns ≤ 1048576) (hnd : nd ≤ 1048576) (hE : VsAt 2 0 w a n (intF K)) (hS : VsAt 5 0 w (some ⟨sb, 0, none⟩) ns (secF S)) (hD : VsAt 1 0 w (some ⟨db, 0, none⟩) nd (boolF D)) :
    Calls Try.prog 36 #[.agg #[.int .i64 sec, .slice a n cap], .agg #[.bool ok, .slice (some ⟨sb, 0, none⟩) ns sc, .slice (some ⟨db, 0, none⟩) nd dc]] w fun e w' => e = .returned (.bool (coB sec n K ok ns nd S D)) ∧ Below w.heap.size w w' := by
  have HE0 : Hid (VsAt 2 0 w a n (intF K) ∧ VsAt 5 0 w (some ⟨sb, 0, none⟩) ns (secF S) ∧ VsAt 1 0 w (some ⟨db, 0, none⟩) nd (boolF D)) := ⟨hE, hS, hD⟩
  clear hE hS hD
  go_enter Try.func36, Try.ntmps36
  go_wp2_with fail
  have B0 := bel2 w (.cells #[.int .i64 sec, .slice a n cap] 29) (.cells #[.bool ok, .slice (some ⟨sb, 0, none⟩) ns sc, .slice (some ⟨db, 0, none⟩) nd dc] 42)
  refine (cntI sec a n cap K ok sb db ns nd sc dc S D _ hn hns hnd (HE0.out.1.mono (Nat.le_refl _) B0 (Nat.le_refl _)) (HE0.out.2.1.mono (Nat.le_refl _) B0 (Nat.le_refl _)) (HE0.out.2.2.mono (Nat.le_refl _) B0 (Nat.le_refl _))).mono ?_
  rintro e w1 ⟨p, rfl, hR, hb1⟩
  have HB : Hid (Below w.heap.size w w1) := B0.trans (hb1.mono B0.size)
  clear B0 hb1
  rcases hR with ⟨h1, rfl⟩ | ⟨h1, c, b, sa, s', da, d', rfl, _⟩
  · have HR : Hid (coB sec n K ok ns nd S D = false) := h1
    clear h1
    go_wp2_with fail
    go_ret
    exact ⟨by rw [HR.out]; rfl, HB.out⟩
  · have HR : Hid (coB sec n K ok ns nd S D = true) := h1
    clear h1
    go_wp2_with fail
    go_ret
    exact ⟨by rw [HR.out]; rfl, HB.out⟩

end Go.Proofs.Ytmcaohablpaknaa
