import Derived.Test.YtflomaagenjfpaaSb
import Derived.Test.YtflomaagenjfpaaAn
import Derived.Test.YtflomaagenjfpaaRs
namespace Go.Proofs.Ytflomaagenjfpaa
open Go.RowKit


set_option maxRecDepth 100000 in
set_option maxHeartbeats 4000000 in
theorem wants11 (r : Rw) (xa fa oa ka : Option Addr) (xc fc oc kc : Nat) (w : World) (hs : r.small) (h : RwIn 0 w r xa fa oa ka) :
    Calls Try.prog 11 #[.agg #[.slice xa r.nn xc, .slice fa r.nf fc, .slice oa r.no oc, .slice ka r.nk kc]] w fun e w' => AnsR w (ansN r) (wantF r (leastS r)) e w' := by
  have H : Hid (RwIn 0 w r xa fa oa ka) := h
  have HS : Hid r.small := hs
  have B0 := bel1 w (.cells #[.slice xa r.nn xc, .slice fa r.nf fc, .slice oa r.no oc, .slice ka r.nk kc] 29)
  have HX : Hid (Box (w.alloc (.cells #[.slice xa r.nn xc, .slice fa r.nf fc, .slice oa r.no oc, .slice ka r.nk kc] 29)) w.heap.size 29 #[.slice xa r.nn xc, .slice fa r.nf fc, .slice oa r.no oc, .slice ka r.nk kc] ∧ Below w.heap.size w (w.alloc (.cells #[.slice xa r.nn xc, .slice fa r.nf fc, .slice oa r.no oc, .slice ka r.nk kc] 29))) := ⟨Box.new w 29 _, B0⟩
  clear h hs B0
  go_enter Try.func11, Try.ntmps11
  go_wp2_with fail
  generalize w.alloc (.cells #[.slice xa r.nn xc, .slice fa r.nf fc, .slice oa r.no oc, .slice ka r.nk kc] 29) = w0 at HX ⊢
  refine (row7 r xa fa oa ka xc fc oc kc _ HS.out (H.out.mono (Nat.le_refl _) HX.out.2 (Nat.le_refl _))).mono ?_
  rintro e w1 ⟨rfl, hb1⟩
  have HX1 : Hid (Box w1 w.heap.size 29 #[.slice xa r.nn xc, .slice fa r.nf fc, .slice oa r.no oc, .slice ka r.nk kc] ∧ Below w.heap.size w w1) := ⟨HX.out.1.mono hb1 (Nat.le_refl _), HX.out.2.trans (hb1.mono HX.out.2.size)⟩
  clear HX hb1
  by_cases h0 : rowF r = 0
  · rw [h0]
    have HN : Hid (ansN r = r.nn) := by simp [Hid, ansN, h0]
    have HG := good_of h0
    have a0 : w1.cell? ⟨w.heap.size, 0, none⟩ = some (.slice xa r.nn xc) := HX1.out.1.cell 0
    have a1 : w1.cell? ⟨w.heap.size, 1, none⟩ = some (.slice fa r.nf fc) := HX1.out.1.cell 1
    have a2 : w1.cell? ⟨w.heap.size, 2, none⟩ = some (.slice oa r.no oc) := HX1.out.1.cell 2
    have a3 : w1.cell? ⟨w.heap.size, 3, none⟩ = some (.slice ka r.nk kc) := HX1.out.1.cell 3
    have HGG : Hid (Good r) := HG
    clear HG h0
    go_wp2_with fail
    refine (both29 r xa fa oa ka xc fc oc kc _ HGG.out (H.out.mono (Nat.le_refl _) HX1.out.2 (Nat.le_refl _))).mono ?_
    rintro e w2 ⟨v4, v5, S, o4, o5, rfl, hl, hS, m1, m2, m3, m4, m5, m6⟩
    have HG := HGG.out
    have HR : Hid (QAt w2 v4 (ansN r) (wantF r (leastS r)) o4 ∧ (∀ g, o4 = some g → w.heap.size ≤ g) ∧ Below w.heap.size w w2) := ⟨by rw [HN.out]; exact m3.congr fun i hi => (wantF_congr HG (fun j hj => (leastS_eq hl hS).2 j hj) hi), fun g hg => by have := m5 g hg; have := HX1.out.2.size; omega, HX1.out.2.trans (m1.mono HX1.out.2.size)⟩
    clear hl hS m1 m2 m3 m4 m5 m6 a0 a1 a2 a3 HX1 HG HGG
    go_wp2_with fail
    go_ret
    exact ⟨_, o4, rfl, HR.out⟩
  · have hne : (rowF r != 0) = true := by simpa using h0
    have HN : Hid (ansN r = 0) := by simp [Hid, ansN, h0]
    clear h0
    go_wp2_with fail
    go_ret
    exact ⟨_, none, rfl, by rw [HN.out]; exact QAt.nil _ _, fun g hg => (nomatch hg), HX1.out.2⟩

set_option maxRecDepth 100000 in
set_option maxHeartbeats 4000000 in
theorem shows17 (r : Rw) (xa fa oa ka : Option Addr) (xc fc oc kc : Nat) (w : World) (hs : r.small) (h : RwIn 0 w r xa fa oa ka) :
    Calls Try.prog 17 #[.agg #[.slice xa r.nn xc, .slice fa r.nf fc, .slice oa r.no oc, .slice ka r.nk kc]] w fun e w' => AnsR w (ansN r) (leastS r) e w' := by
  have H : Hid (RwIn 0 w r xa fa oa ka) := h
  have HS : Hid r.small := hs
  have B0 := bel1 w (.cells #[.slice xa r.nn xc, .slice fa r.nf fc, .slice oa r.no oc, .slice ka r.nk kc] 29)
  have HX : Hid (Box (w.alloc (.cells #[.slice xa r.nn xc, .slice fa r.nf fc, .slice oa r.no oc, .slice ka r.nk kc] 29)) w.heap.size 29 #[.slice xa r.nn xc, .slice fa r.nf fc, .slice oa r.no oc, .slice ka r.nk kc] ∧ Below w.heap.size w (w.alloc (.cells #[.slice xa r.nn xc, .slice fa r.nf fc, .slice oa r.no oc, .slice ka r.nk kc] 29))) := ⟨Box.new w 29 _, B0⟩
  clear h hs B0
  go_enter Try.func17, Try.ntmps17
  go_wp2_with fail
  generalize w.alloc (.cells #[.slice xa r.nn xc, .slice fa r.nf fc, .slice oa r.no oc, .slice ka r.nk kc] 29) = w0 at HX ⊢
  refine (row7 r xa fa oa ka xc fc oc kc _ HS.out (H.out.mono (Nat.le_refl _) HX.out.2 (Nat.le_refl _))).mono ?_
  rintro e w1 ⟨rfl, hb1⟩
  have HX1 : Hid (Box w1 w.heap.size 29 #[.slice xa r.nn xc, .slice fa r.nf fc, .slice oa r.no oc, .slice ka r.nk kc] ∧ Below w.heap.size w w1) := ⟨HX.out.1.mono hb1 (Nat.le_refl _), HX.out.2.trans (hb1.mono HX.out.2.size)⟩
  clear HX hb1
  by_cases h0 : rowF r = 0
  · rw [h0]
    have HN : Hid (ansN r = r.nn) := by simp [Hid, ansN, h0]
    have HG := good_of h0
    have a0 : w1.cell? ⟨w.heap.size, 0, none⟩ = some (.slice xa r.nn xc) := HX1.out.1.cell 0
    have a1 : w1.cell? ⟨w.heap.size, 1, none⟩ = some (.slice fa r.nf fc) := HX1.out.1.cell 1
    have a2 : w1.cell? ⟨w.heap.size, 2, none⟩ = some (.slice oa r.no oc) := HX1.out.1.cell 2
    have a3 : w1.cell? ⟨w.heap.size, 3, none⟩ = some (.slice ka r.nk kc) := HX1.out.1.cell 3
    have HGG : Hid (Good r) := HG
    clear HG h0
    go_wp2_with fail
    refine (both29 r xa fa oa ka xc fc oc kc _ HGG.out (H.out.mono (Nat.le_refl _) HX1.out.2 (Nat.le_refl _))).mono ?_
    rintro e w2 ⟨v4, v5, S, o4, o5, rfl, hl, hS, m1, m2, m3, m4, m5, m6⟩
    have HG := HGG.out
    have HR : Hid (QAt w2 v5 (ansN r) (leastS r) o5 ∧ (∀ g, o5 = some g → w.heap.size ≤ g) ∧ Below w.heap.size w w2) := ⟨by rw [HN.out]; exact m4.congr fun i hi => (leastS_eq hl hS).2 i hi, fun g hg => by have := m6 g hg; have := HX1.out.2.size; omega, HX1.out.2.trans (m1.mono HX1.out.2.size)⟩
    clear hl hS m1 m2 m3 m4 m5 m6 a0 a1 a2 a3 HX1 HG HGG
    go_wp2_with fail
    go_ret
    exact ⟨_, o5, rfl, HR.out⟩
  · have hne : (rowF r != 0) = true := by simpa using h0
    have HN : Hid (ansN r = 0) := by simp [Hid, ansN, h0]
    clear h0
    go_wp2_with fail
    go_ret
    exact ⟨_, none, rfl, by rw [HN.out]; exact QAt.nil _ _, fun g hg => (nomatch hg), HX1.out.2⟩

end Go.Proofs.Ytflomaagenjfpaa
