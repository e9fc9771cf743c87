import Derived.Test.YtflomaagenjfpaaId
namespace Go.Proofs.Ytflomaagenjfpaa
open Go.RowKit


set_option maxRecDepth 100000 in
set_option maxHeartbeats 4000000 in
theorem wants12 (r : Rw) (xa fa oa ka : Option Addr) (xc fc oc kc : Nat) (w : World) (hs : r.small) (h : RwIn 0 w r xa fa oa ka) :
    Calls Try.prog 12 #[.agg #[.slice xa r.nn xc, .slice fa r.nf fc, .slice oa r.no oc, .slice ka r.nk kc]] w fun e w' => AnsR w (ansN r) (wantF r (leastS r)) e w' := by
  have H : Hid (RwIn 0 w r xa fa oa ka) := h
  have HS : Hid r.small := hs
  have HX : Hid (Below w.heap.size w (w.alloc (.cells #[.slice xa r.nn xc, .slice fa r.nf fc, .slice oa r.no oc, .slice ka r.nk kc] 29))) := bel1 _ _
  clear h hs
  go_enter Try.func12, Try.ntmps12
  go_wp2_with fail
  generalize w.alloc (.cells #[.slice xa r.nn xc, .slice fa r.nf fc, .slice oa r.no oc, .slice ka r.nk kc] 29) = w0 at HX ⊢
  refine (agreed30 r xa fa oa ka xc fc oc kc _ HS.out (H.out.mono (Nat.le_refl _) HX.out (Nat.le_refl _))).mono ?_
  rintro e w1 ⟨y0, y1, y2, y3, m0, k0, m1, k1, m2, k2, m3, k3, wv, sv, o4, o5, rfl, q4, q5, l4, l5, hb⟩
  obtain ⟨a4, c4, rfl⟩ := q4.val
  obtain ⟨a5, c5, rfl⟩ := q5.val
  have HR : Hid (QAt w1 (.slice a4 (ansN r) c4) (ansN r) (wantF r (leastS r)) o4 ∧ (∀ g, o4 = some g → w.heap.size ≤ g) ∧ Below w.heap.size w w1) := ⟨q4, fun g e => Nat.le_trans HX.out.size (l4 g e), HX.out.trans (hb.mono HX.out.size)⟩
  clear q4 q5 l4 l5 hb HX
  have hfd : ∀ W : World, (Instr.field 48 (.agg #[.slice y0 m0 k0, .slice y1 m1 k1, .slice y2 m2 k2, .slice y3 m3 k3, .slice a4 (ansN r) c4, .slice a5 (ansN r) c5]) 1).run Try.prog W = .ok (.slice a4 (ansN r) c4) W := fun _ => by kernel_rfl
  go_wp2_with fail
  go_ret
  exact ⟨_, _, rfl, HR.out⟩

set_option maxRecDepth 100000 in
set_option maxHeartbeats 4000000 in
theorem shows18 (r : Rw) (xa fa oa ka : Option Addr) (xc fc oc kc : Nat) (w : World) (hs : r.small) (h : RwIn 0 w r xa fa oa ka) :
    Calls Try.prog 18 #[.agg #[.slice xa r.nn xc, .slice fa r.nf fc, .slice oa r.no oc, .slice ka r.nk kc]] w fun e w' => AnsR w (ansN r) (leastS r) e w' := by
  have H : Hid (RwIn 0 w r xa fa oa ka) := h
  have HS : Hid r.small := hs
  have HX : Hid (Below w.heap.size w (w.alloc (.cells #[.slice xa r.nn xc, .slice fa r.nf fc, .slice oa r.no oc, .slice ka r.nk kc] 29))) := bel1 _ _
  clear h hs
  go_enter Try.func18, Try.ntmps18
  go_wp2_with fail
  generalize w.alloc (.cells #[.slice xa r.nn xc, .slice fa r.nf fc, .slice oa r.no oc, .slice ka r.nk kc] 29) = w0 at HX ⊢
  refine (agreed30 r xa fa oa ka xc fc oc kc _ HS.out (H.out.mono (Nat.le_refl _) HX.out (Nat.le_refl _))).mono ?_
  rintro e w1 ⟨y0, y1, y2, y3, m0, k0, m1, k1, m2, k2, m3, k3, wv, sv, o4, o5, rfl, q4, q5, l4, l5, hb⟩
  obtain ⟨a4, c4, rfl⟩ := q4.val
  obtain ⟨a5, c5, rfl⟩ := q5.val
  have HR : Hid (QAt w1 (.slice a5 (ansN r) c5) (ansN r) (leastS r) o5 ∧ (∀ g, o5 = some g → w.heap.size ≤ g) ∧ Below w.heap.size w w1) := ⟨q5, fun g e => Nat.le_trans HX.out.size (l5 g e), HX.out.trans (hb.mono HX.out.size)⟩
  clear q4 q5 l4 l5 hb HX
  have hfd : ∀ W : World, (Instr.field 48 (.agg #[.slice y0 m0 k0, .slice y1 m1 k1, .slice y2 m2 k2, .slice y3 m3 k3, .slice a4 (ansN r) c4, .slice a5 (ansN r) c5]) 2).run Try.prog W = .ok (.slice a5 (ansN r) c5) W := fun _ => by kernel_rfl
  go_wp2_with fail
  go_ret
  exact ⟨_, _, rfl, HR.out⟩

end Go.Proofs.Ytflomaagenjfpaa
