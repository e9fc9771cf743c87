import Derived.Test.YtlgapgajgpilgaaGreatDoorZbk
import Derived.Test.YtlgapgajgpilgaaGreatDoorZab
namespace Go.Proofs.YtlgapgajgpilgaaGreatDoor
open Go.RowKit Go.Lib
set_option maxRecDepth 100000 in
set_option maxHeartbeats 2000000 in
theorem eqStays26 (a1 a2 a3 b1 b2 b3 : Option Addr) (c1 c2 c3 d1 d2 d3 n1 n2 n3 : Nat) (D1 D2 D3 : Nat → Int) (w : World) (h1 : n1 ≤ 1048576) (h2 : n2 ≤ 1048576) (h3 : n3 ≤ 1048576)
  (hA1 : VsAt 1 0 w a1 n1 (oneF D1)) (hA2 : VsAt 1 0 w a2 n2 (oneF D2)) (hA3 : VsAt 1 0 w a3 n3 (oneF D3)) (hB1 : VsAt 1 0 w b1 n1 (oneF D1)) (hB2 : VsAt 1 0 w b2 n2 (oneF D2)) (hB3 : VsAt 1 0 w b3 n3 (oneF D3)) :
  Calls Tryz.prog 26 #[.agg #[.slice a1 n1 c1, .slice a2 n2 c2, .slice a3 n3 c3], .agg #[.slice b1 n1 d1, .slice b2 n2 d2, .slice b3 n3 d3]] w fun e w' => e = .returned (.bool true) ∧ Below w.heap.size w w' := by
 have H : Hid (VsAt 1 0 w a1 n1 (oneF D1) ∧ VsAt 1 0 w a2 n2 (oneF D2) ∧ VsAt 1 0 w a3 n3 (oneF D3) ∧ VsAt 1 0 w b1 n1 (oneF D1) ∧ VsAt 1 0 w b2 n2 (oneF D2) ∧ VsAt 1 0 w b3 n3 (oneF D3)) := ⟨hA1, hA2, hA3, hB1, hB2, hB3⟩
 clear hA1 hA2 hA3 hB1 hB2 hB3
 have S0 : Hid (Below w.heap.size w ((w.alloc (.cells #[.slice a1 n1 c1, .slice a2 n2 c2, .slice a3 n3 c3] 53)).alloc (.cells #[.slice b1 n1 d1, .slice b2 n2 d2, .slice b3 n3 d3] 53)) ∧ Box ((w.alloc (.cells #[.slice a1 n1 c1, .slice a2 n2 c2, .slice a3 n3 c3] 53)).alloc (.cells #[.slice b1 n1 d1, .slice b2 n2 d2, .slice b3 n3 d3] 53)) w.heap.size 53 #[.slice a1 n1 c1, .slice a2 n2 c2, .slice a3 n3 c3] ∧ Box ((w.alloc (.cells #[.slice a1 n1 c1, .slice a2 n2 c2, .slice a3 n3 c3] 53)).alloc (.cells #[.slice b1 n1 d1, .slice b2 n2 d2, .slice b3 n3 d3] 53)) (w.heap.size + 1) 53 #[.slice b1 n1 d1, .slice b2 n2 d2, .slice b3 n3 d3]) := ⟨bel2 _ _ _, (Box.new _ _ _).alloc _, by have := Box.new (w.alloc (.cells #[.slice a1 n1 c1, .slice a2 n2 c2, .slice a3 n3 c3] 53)) 53 #[.slice b1 n1 d1, .slice b2 n2 d2, .slice b3 n3 d3]; simpa using this⟩
 go_enter Tryz.func26, Tryz.ntmps26
 go_wp2_with fail
 generalize ((w.alloc (.cells #[.slice a1 n1 c1, .slice a2 n2 c2, .slice a3 n3 c3] 53)).alloc (.cells #[.slice b1 n1 d1, .slice b2 n2 d2, .slice b3 n3 d3] 53)) = V0 at S0 ⊢
 refine (eqIntS a1 b1 n1 c1 d1 (fun i _ => D1 i) V0 h1 (H.out.1.mono nr S0.out.1 nr) (H.out.2.2.2.1.mono nr S0.out.1 nr)).mono ?_
 rintro e w1 ⟨rfl, hb1⟩
 have S1 : Hid (Below w.heap.size w w1 ∧ Box w1 w.heap.size 53 #[.slice a1 n1 c1, .slice a2 n2 c2, .slice a3 n3 c3] ∧ Box w1 (w.heap.size + 1) 53 #[.slice b1 n1 d1, .slice b2 n2 d2, .slice b3 n3 d3]) := ⟨S0.out.1.trans (hb1.mono S0.out.1.size), S0.out.2.1.mono hb1 nr, S0.out.2.2.mono hb1 nr⟩
 clear hb1 S0
 have x1 := S1.out.2.1.cel 1
 have y1 := S1.out.2.2.cel 1
 go_wp2_with fail
 clear x1 y1
 refine (eqIntS a2 b2 n2 c2 d2 (fun i _ => D2 i) w1 h2 (H.out.2.1.mono nr S1.out.1 nr) (H.out.2.2.2.2.1.mono nr S1.out.1 nr)).mono ?_
 rintro e w2 ⟨rfl, hb2⟩
 have S2 : Hid (Below w.heap.size w w2 ∧ Box w2 w.heap.size 53 #[.slice a1 n1 c1, .slice a2 n2 c2, .slice a3 n3 c3] ∧ Box w2 (w.heap.size + 1) 53 #[.slice b1 n1 d1, .slice b2 n2 d2, .slice b3 n3 d3]) := ⟨S1.out.1.trans (hb2.mono S1.out.1.size), S1.out.2.1.mono hb2 nr, S1.out.2.2.mono hb2 nr⟩
 clear hb2 S1
 have x2 := S2.out.2.1.cel 2
 have y2 := S2.out.2.2.cel 2
 go_wp2_with fail
 clear x2 y2
 refine (eqIntS a3 b3 n3 c3 d3 (fun i _ => D3 i) w2 h3 (H.out.2.2.1.mono nr S2.out.1 nr) (H.out.2.2.2.2.2.mono nr S2.out.1 nr)).mono ?_
 rintro e w3 ⟨rfl, hb3⟩
 have S3 : Hid (Below w.heap.size w w3) := S2.out.1.trans (hb3.mono S2.out.1.size)
 clear hb3 S2
 go_wp2_with fail
 go_ret
 exact ⟨rfl, S3.out⟩
end Go.Proofs.YtlgapgajgpilgaaGreatDoor
namespace Go.Proofs.YtlgapgajgpilgaaGreatDoor
open Go.RowKit Go.Lib
set_option maxRecDepth 100000 in
set_option maxHeartbeats 4000000 in
theorem markStays27 (B : Nat) (a1 a2 a3 : Option Addr) (c1 c2 c3 n1 n2 n3 : Nat) (D1 D2 D3 : Nat → Int) (w : World) (h1 : n1 ≤ 1048576) (h2 : n2 ≤ 1048576) (h3 : n3 ≤ 1048576) (hA1 : VOwn B 3 1 w (.slice a1 n1 c1) n1 (oneF D1)) (hA2 : VOwn B 3 1 w (.slice a2 n2 c2) n2 (oneF D2)) (hA3 : VOwn B 3 1 w (.slice a3 n3 c3) n3 (oneF D3))
  (hn1 : ∀ g, (Value.slice a1 n1 c1).ownBlock = some g → (Value.slice a2 n2 c2).ownBlock ≠ some g ∧ (Value.slice a3 n3 c3).ownBlock ≠ some g) (hn2 : ∀ g, (Value.slice a2 n2 c2).ownBlock = some g → (Value.slice a3 n3 c3).ownBlock ≠ some g) :
  Calls Tryz.prog 27 #[.agg #[.slice a1 n1 c1, .slice a2 n2 c2, .slice a3 n3 c3], .int .i64 ((1 : Nat) : Int)] w fun e w' => e = .returned (.int .i64 ((1 + n1 + n2 + n3 : Nat) : Int)) ∧ VOwn B 3 1 w' (.slice a1 n1 c1) n1 (oneF (mkI 1)) ∧ VOwn B 3 1 w' (.slice a2 n2 c2) n2 (oneF (mkI (1 + n1))) ∧ VOwn B 3 1 w' (.slice a3 n3 c3) n3 (oneF (mkI (1 + n1 + n2))) ∧ Fr (fun b => (Value.slice a1 n1 c1).ownBlock = some b ∨ (Value.slice a2 n2 c2).ownBlock = some b ∨ (Value.slice a3 n3 c3).ownBlock = some b) w w' := by
 have H : Hid ((∀ g, (Value.slice a1 n1 c1).ownBlock = some g → (Value.slice a2 n2 c2).ownBlock ≠ some g ∧ (Value.slice a3 n3 c3).ownBlock ≠ some g) ∧ ∀ g, (Value.slice a2 n2 c2).ownBlock = some g → (Value.slice a3 n3 c3).ownBlock ≠ some g) := ⟨hn1, hn2⟩
 have S0 : Hid (Fr (fun b => (Value.slice a1 n1 c1).ownBlock = some b ∨ (Value.slice a2 n2 c2).ownBlock = some b ∨ (Value.slice a3 n3 c3).ownBlock = some b) w (w.alloc (.cells #[.slice a1 n1 c1, .slice a2 n2 c2, .slice a3 n3 c3] 53)) ∧ Box (w.alloc (.cells #[.slice a1 n1 c1, .slice a2 n2 c2, .slice a3 n3 c3] 53)) w.heap.size 53 #[.slice a1 n1 c1, .slice a2 n2 c2, .slice a3 n3 c3] ∧ VOwn B 3 1 (w.alloc (.cells #[.slice a1 n1 c1, .slice a2 n2 c2, .slice a3 n3 c3] 53)) (.slice a1 n1 c1) n1 (oneF D1) ∧ VOwn B 3 1 (w.alloc (.cells #[.slice a1 n1 c1, .slice a2 n2 c2, .slice a3 n3 c3] 53)) (.slice a2 n2 c2) n2 (oneF D2) ∧ VOwn B 3 1 (w.alloc (.cells #[.slice a1 n1 c1, .slice a2 n2 c2, .slice a3 n3 c3] 53)) (.slice a3 n3 c3) n3 (oneF D3)) := ⟨Fr.of_below (bel1 _ _), Box.new _ _ _, hA1.alloc _, hA2.alloc _, hA3.alloc _⟩
 clear hA1 hA2 hA3 hn1 hn2
 go_enter Tryz.func27, Tryz.ntmps27
 go_wp2_with fail
 generalize (w.alloc (.cells #[.slice a1 n1 c1, .slice a2 n2 c2, .slice a3 n3 c3] 53)) = V0 at S0 ⊢
 refine (mark20 B a1 n1 c1 D1 1 V0 h1 (by omega) S0.out.2.2.1).mono ?_
 rintro e w1 ⟨rfl, hv, hf⟩
 have S1 : Hid (Fr (fun b => (Value.slice a1 n1 c1).ownBlock = some b ∨ (Value.slice a2 n2 c2).ownBlock = some b ∨ (Value.slice a3 n3 c3).ownBlock = some b) w w1 ∧ Box w1 w.heap.size 53 #[.slice a1 n1 c1, .slice a2 n2 c2, .slice a3 n3 c3] ∧ VOwn B 3 1 w1 (.slice a1 n1 c1) n1 (oneF (mkI 1)) ∧ VOwn B 3 1 w1 (.slice a2 n2 c2) n2 (oneF D2) ∧ VOwn B 3 1 w1 (.slice a3 n3 c3) n3 (oneF D3)) := by
  obtain ⟨k1, k2, k3, k4, k5⟩ := S0.out
  exact ⟨k1.trans (hf.mono fun b _ e => .inl e), k2.fr hf (fun (e : (Value.slice a1 n1 c1).ownBlock = some w.heap.size) => k3.off k2 (by decide) e rfl), hv, k4.fr hf (fun g hg (e : (Value.slice a1 n1 c1).ownBlock = some g) => (H.out.1 g e).1 hg), k5.fr hf (fun g hg (e : (Value.slice a1 n1 c1).ownBlock = some g) => (H.out.1 g e).2 hg)⟩
 clear hv hf S0
 obtain ⟨x1, HX1⟩ : ∃ x, Hid (1 + n1 = x) := ⟨_, rfl⟩
 have hx1 : x1 ≤ 1048577 := by have := HX1.out; omega
 rw [HX1.out]
 have d1 := S1.out.2.1.cel 1
 go_wp2_with fail
 clear d1
 refine (mark20 B a2 n2 c2 D2 x1 w1 h2 (by omega) S1.out.2.2.2.1).mono ?_
 rintro e w2 ⟨rfl, hv, hf⟩
 have S2 : Hid (Fr (fun b => (Value.slice a1 n1 c1).ownBlock = some b ∨ (Value.slice a2 n2 c2).ownBlock = some b ∨ (Value.slice a3 n3 c3).ownBlock = some b) w w2 ∧ Box w2 w.heap.size 53 #[.slice a1 n1 c1, .slice a2 n2 c2, .slice a3 n3 c3] ∧ VOwn B 3 1 w2 (.slice a1 n1 c1) n1 (oneF (mkI 1)) ∧ VOwn B 3 1 w2 (.slice a2 n2 c2) n2 (oneF (mkI x1)) ∧ VOwn B 3 1 w2 (.slice a3 n3 c3) n3 (oneF D3)) := by
  obtain ⟨k1, k2, k3, k4, k5⟩ := S1.out
  exact ⟨k1.trans (hf.mono fun b _ e => .inr (.inl e)), k2.fr hf (fun (e : (Value.slice a2 n2 c2).ownBlock = some w.heap.size) => k4.off k2 (by decide) e rfl), k3.fr hf (fun g hg (e : (Value.slice a2 n2 c2).ownBlock = some g) => (H.out.1 g hg).1 e), hv, k5.fr hf (fun g hg (e : (Value.slice a2 n2 c2).ownBlock = some g) => H.out.2 g e hg)⟩
 clear hv hf S1
 obtain ⟨x2, HX2⟩ : ∃ x, Hid (x1 + n2 = x) := ⟨_, rfl⟩
 have hx2 : x2 ≤ 2097153 := by have := HX2.out; omega
 rw [HX2.out]
 have d2 := S2.out.2.1.cel 2
 go_wp2_with fail
 clear d2
 refine (mark20 B a3 n3 c3 D3 x2 w2 h3 (by omega) S2.out.2.2.2.2).mono ?_
 rintro e w3 ⟨rfl, hv, hf⟩
 have S3 : Hid (VOwn B 3 1 w3 (.slice a1 n1 c1) n1 (oneF (mkI 1)) ∧ VOwn B 3 1 w3 (.slice a2 n2 c2) n2 (oneF (mkI x1)) ∧ VOwn B 3 1 w3 (.slice a3 n3 c3) n3 (oneF (mkI x2)) ∧ Fr (fun b => (Value.slice a1 n1 c1).ownBlock = some b ∨ (Value.slice a2 n2 c2).ownBlock = some b ∨ (Value.slice a3 n3 c3).ownBlock = some b) w w3) := by
  obtain ⟨k1, k2, k3, k4, k5⟩ := S2.out
  exact ⟨k3.fr hf (fun g hg (e : (Value.slice a3 n3 c3).ownBlock = some g) => (H.out.1 g hg).2 e), k4.fr hf (fun g hg (e : (Value.slice a3 n3 c3).ownBlock = some g) => H.out.2 g hg e), hv, k1.trans (hf.mono fun b _ e => .inr (.inr e))⟩
 clear hv hf S2
 obtain ⟨x3, HX3⟩ : ∃ x, Hid (x2 + n3 = x) := ⟨_, rfl⟩
 rw [HX3.out]
 go_wp2_with fail
 go_ret
 exact ⟨by rw [HX1.out, HX2.out, HX3.out]; rfl, S3.out.1, by rw [HX1.out]; exact S3.out.2.1, by rw [HX1.out, HX2.out]; exact S3.out.2.2.1, S3.out.2.2.2⟩
set_option maxRecDepth 100000 in
set_option maxHeartbeats 4000000 in
theorem heldStays28 (a1 a2 a3 : Option Addr) (c1 c2 c3 n1 n2 n3 : Nat) (w : World) (h1 : n1 ≤ 1048576) (h2 : n2 ≤ 1048576) (h3 : n3 ≤ 1048576) (hA1 : VsAt 1 0 w a1 n1 (oneF (mkI 1))) (hA2 : VsAt 1 0 w a2 n2 (oneF (mkI (1 + n1)))) (hA3 : VsAt 1 0 w a3 n3 (oneF (mkI (1 + n1 + n2)))) :
  Calls Tryz.prog 28 #[.agg #[.slice a1 n1 c1, .slice a2 n2 c2, .slice a3 n3 c3], .int .i64 ((1 : Nat) : Int)] w fun e w' => e = .returned (.int .i64 ((1 + n1 + n2 + n3 : Nat) : Int)) ∧ Below w.heap.size w w' := by
 obtain ⟨x1, HX1⟩ : ∃ x, Hid (1 + n1 = x) := ⟨_, rfl⟩
 have hx1 : x1 ≤ 1048577 := by have := HX1.out; omega
 obtain ⟨x2, HX2⟩ : ∃ x, Hid (x1 + n2 = x) := ⟨_, rfl⟩
 have hx2 : x2 ≤ 2097153 := by have := HX2.out; omega
 obtain ⟨x3, HX3⟩ : ∃ x, Hid (x2 + n3 = x) := ⟨_, rfl⟩
 rw [HX1.out] at hA2 hA3 ⊢
 rw [HX2.out] at hA3 ⊢
 rw [HX3.out]
 have S0 : Hid (Below w.heap.size w (w.alloc (.cells #[.slice a1 n1 c1, .slice a2 n2 c2, .slice a3 n3 c3] 53)) ∧ Box (w.alloc (.cells #[.slice a1 n1 c1, .slice a2 n2 c2, .slice a3 n3 c3] 53)) w.heap.size 53 #[.slice a1 n1 c1, .slice a2 n2 c2, .slice a3 n3 c3] ∧ VsAt 1 0 (w.alloc (.cells #[.slice a1 n1 c1, .slice a2 n2 c2, .slice a3 n3 c3] 53)) a1 n1 (oneF (mkI 1)) ∧ VsAt 1 0 (w.alloc (.cells #[.slice a1 n1 c1, .slice a2 n2 c2, .slice a3 n3 c3] 53)) a2 n2 (oneF (mkI x1)) ∧ VsAt 1 0 (w.alloc (.cells #[.slice a1 n1 c1, .slice a2 n2 c2, .slice a3 n3 c3] 53)) a3 n3 (oneF (mkI x2))) := ⟨bel1 _ _, Box.new _ _ _, hA1.mono nr (bel1 _ _) nr, hA2.mono nr (bel1 _ _) nr, hA3.mono nr (bel1 _ _) nr⟩
 clear hA1 hA2 hA3
 go_enter Tryz.func28, Tryz.ntmps28
 go_wp2_with fail
 generalize (w.alloc (.cells #[.slice a1 n1 c1, .slice a2 n2 c2, .slice a3 n3 c3] 53)) = V0 at S0 ⊢
 refine (held21 a1 n1 c1 1 V0 h1 (by omega) S0.out.2.2.1).mono ?_
 rintro e wz ⟨rfl, hw⟩
 have hw := hw.symm
 subst hw
 rw [HX1.out]
 have hn1 : ¬ ((x1 : Int) < 0) := by omega
 have d1 := S0.out.2.1.cel 1
 have d2 := S0.out.2.1.cel 2
 go_wp2_with fail
 refine (held21 a2 n2 c2 x1 V0 h2 (by omega) S0.out.2.2.2.1).mono ?_
 rintro e wz ⟨rfl, hw⟩
 have hw := hw.symm
 subst hw
 rw [HX2.out]
 have hn2 : ¬ ((x2 : Int) < 0) := by omega
 go_wp2_with fail
 refine (held21 a3 n3 c3 x2 V0 h3 (by omega) S0.out.2.2.2.2).mono ?_
 rintro e wz ⟨rfl, hw⟩
 have hw := hw.symm
 subst hw
 rw [HX3.out]
 have hn3 : ¬ ((x3 : Int) < 0) := by omega
 go_wp2_with fail
 go_ret
 exact ⟨rfl, S0.out.1⟩
end Go.Proofs.YtlgapgajgpilgaaGreatDoor
