import Derived.Test.YtflomaagenjfpaaQb
namespace Go.Proofs.Ytflomaagenjfpaa
open Go.RowKit

set_option maxRecDepth 100000 in
set_option maxHeartbeats 4000000 in
theorem want41 (r : Rw) (xa fa oa ka : Option Addr) (xc fc oc kc : Nat) (wv : Value) (sa : Option Addr) (sc : Nat) (S : Nat → Int) (i : Nat) (w : World) (hr : Good r) (hS : Low r.nn S) (hi : i < r.nn) (_hwv : wv.oneCell' = true) (h : RwIn 0 w r xa fa oa ka) (hs : VsAt 1 0 w sa r.nn (oneF S)) :
    Calls Try.prog 41 #[.agg #[.slice xa r.nn xc, .slice fa r.nf fc, .slice oa r.no oc, .slice ka r.nk kc, wv, .slice sa r.nn sc], .int .i64 i] w fun e w' => e = .returned (.int .i64 (wantF r S i)) ∧ Below w.heap.size w w' := by
  obtain ⟨g1, g2, g3, g4, g5, g6⟩ := hr
  have hx := g2 i hi
  have B0 := bel1 w (.cells #[.slice xa r.nn xc, .slice fa r.nf fc, .slice oa r.no oc, .slice ka r.nk kc, wv, .slice sa r.nn sc] 48)
  have h' := h.mono (Nat.le_refl _) B0 (Nat.le_refl _)
  have hs' := hs.mono (Nat.le_refl _) B0 (Nat.le_refl _)
  obtain ⟨b, off, rfl, _, hb, hc⟩ := h'.x (by omega)
  obtain ⟨b2, off2, rfl, _, hb2, hc2⟩ := h'.o (by omega)
  obtain ⟨b3, off3, rfl, _, hb3, hc3⟩ := hs' (by omega)
  have c0 : (w.alloc (.cells #[.slice (some ⟨b, off, none⟩) r.nn xc, .slice fa r.nf fc, .slice (some ⟨b2, off2, none⟩) r.no oc, .slice ka r.nk kc, wv, .slice (some ⟨b3, off3, none⟩) r.nn sc] 48)).cell? ⟨b, off + i, none⟩ = some (.int .i64 (r.X i)) := by have := hc i hi 0 (by omega); rwa [Nat.mul_one] at this
  have c1 : (w.alloc (.cells #[.slice (some ⟨b, off, none⟩) r.nn xc, .slice fa r.nf fc, .slice (some ⟨b2, off2, none⟩) r.no oc, .slice ka r.nk kc, wv, .slice (some ⟨b3, off3, none⟩) r.nn sc] 48)).cell? ⟨b2, off2 + i, none⟩ = some (.bool (r.O i)) := by have := hc2 i (by omega) 0 (by omega); rwa [Nat.mul_one] at this
  have HC3 : Hid (∀ k, k < r.nn → (w.alloc (.cells #[.slice (some ⟨b, off, none⟩) r.nn xc, .slice fa r.nf fc, .slice (some ⟨b2, off2, none⟩) r.no oc, .slice ka r.nk kc, wv, .slice (some ⟨b3, off3, none⟩) r.nn sc] 48)).cell? ⟨b3, off3 + k, none⟩ = some (.int .i64 (S k))) := fun k hk => by have := hc3 k hk 0 (by omega); rwa [Nat.mul_one] at this
  have HB : Hid (Below w.heap.size w (w.alloc (.cells #[.slice (some ⟨b, off, none⟩) r.nn xc, .slice fa r.nf fc, .slice (some ⟨b2, off2, none⟩) r.no oc, .slice ka r.nk kc, wv, .slice (some ⟨b3, off3, none⟩) r.nn sc] 48))) := B0
  have hi0 : (0 : Int) ≤ (i : Int) := by omega
  have hin : (i : Int) < (r.nn : Int) := by omega
  have hio : (i : Int) < (r.no : Int) := by omega
  clear hc hc2 hc3 h h' hs hs' B0 g2 g3 g4 g5 g6
  go_enter Try.func41, Try.ntmps41
  cases hO : r.O i with
  | false =>
    rw [hO] at c1
    go_wp2_with fail
    go_ret
    exact ⟨by simp [wantF, hO], HB.out⟩
  | true =>
    rw [hO] at c1
    by_cases hX : r.X i < 0
    · have hX1 : r.X i = -1 := by omega
      have HWF : Hid (wantF r S i = 1) := by simp [Hid, wantF, hO, hX]
      rw [hX1] at c0
      clear hX hX1 hx
      go_wp2_with fail
      go_ret
      exact ⟨by rw [HWF.out]; rfl, HB.out⟩
    · obtain ⟨k, hk⟩ : ∃ k : Nat, r.X i = (k : Int) := ⟨(r.X i).toNat, by omega⟩
      have hkn : k < r.nn := by omega
      have c3 := HC3.out k hkn
      have hl := hS k hkn
      have hwf : wantF r S i = if 3 < S k + 1 then 3 else S k + 1 := by
        unfold wantF
        rw [if_pos hO, hk, if_neg (by omega), Int.toNat_natCast]
      rw [hwf]
      rw [hk] at c0
      have hk0 : (0 : Int) ≤ (k : Int) := by omega
      have hkn' : (k : Int) < (r.nn : Int) := by omega
      have hkm : ((k : Int) == -1) = false := by simp
      clear hX hx hk hwf
      by_cases h4 : 3 < S k + 1
      · rw [if_pos h4]
        go_wp2_with fail
        go_ret
        exact ⟨by simp <;> omega, HB.out⟩
      · rw [if_neg h4]
        go_wp2_with fail
        go_ret
        exact ⟨by simp <;> omega, HB.out⟩

/-- a row and what has been answered until now -/
structure Ak (w0 : World) (r : Rw) (xa fa oa ka : Option Addr) (wb sb : Nat) (S W : Nat → Int) (w : World) : Prop where
  bel : Below w0.heap.size w0 w
  row : RwIn 0 w0 r xa fa oa ka
  wq : QAt w (.slice (some ⟨wb, 0, none⟩) r.nn r.nn) r.nn W (some wb)
  sq : QAt w (.slice (some ⟨sb, 0, none⟩) r.nn r.nn) r.nn S (some sb)
  wl : w0.heap.size ≤ wb
  sl : w0.heap.size ≤ sb
  ne : wb ≠ sb
section
variable {w0 w : World} {r : Rw} {xa fa oa ka : Option Addr} {wb sb : Nat} {S W : Nat → Int}
theorem Ak.mono {w' : World} {M : Nat} (h : Ak w0 r xa fa oa ka wb sb S W w) (hb : Below M w w') (hM : w.heap.size ≤ M) : Ak w0 r xa fa oa ka wb sb S W w' :=
  ⟨h.bel.trans (hb.mono (Nat.le_trans h.bel.size hM)), h.row, h.wq.mono hb hM, h.sq.mono hb hM, h.wl, h.sl, h.ne⟩
theorem Ak.drew (h : Ak w0 r xa fa oa ka wb sb S W w) : Ak w0 r xa fa oa ka wb sb S W w.drew := h.mono ((Below.refl w.heap.size w).drew) (Nat.le_refl _)
theorem Ak.fr {w' : World} {X : Nat → Prop} (h : Ak w0 r xa fa oa ka wb sb S W w) (hf : Fr X w w') (hx : ∀ b, b < w0.heap.size → ¬ X b) (h1 : ¬ X wb) (h2 : ¬ X sb) : Ak w0 r xa fa oa ka wb sb S W w' :=
  ⟨h.bel.trans (hf.below h.bel.size hx), h.row, h.wq.fr hf (fun g e => by simp only [Option.some.injEq] at e; subst e; exact h1), h.sq.fr hf (fun g e => by simp only [Option.some.injEq] at e; subst e; exact h2), h.wl, h.sl, h.ne⟩
theorem Ak.setW (h : Ak w0 r xa fa oa ka wb sb S W w) {i : Nat} (hi : i < r.nn) (x : Int) : Ak w0 r xa fa oa ka wb sb S (updI W i x) (w.setCell ⟨wb, i, none⟩ (.int .i64 x)) :=
  ⟨h.bel.setCell h.wl _, h.row, h.wq.store0 hi x fun _ _ => rfl, h.sq.other (fun g e => by simp only [Option.some.injEq] at e; subst e; exact Ne.symm h.ne) _, h.wl, h.sl, h.ne⟩
theorem Ak.setS (h : Ak w0 r xa fa oa ka wb sb S W w) {i : Nat} (hi : i < r.nn) (x : Int) : Ak w0 r xa fa oa ka wb sb (updI S i x) W (w.setCell ⟨sb, i, none⟩ (.int .i64 x)) :=
  ⟨h.bel.setCell h.sl _, h.row, h.wq.other (fun g e => by simp only [Option.some.injEq] at e; subst e; exact h.ne) _, h.sq.store0 hi x fun _ _ => rfl, h.wl, h.sl, h.ne⟩
theorem Ak.rowAt (h : Ak w0 r xa fa oa ka wb sb S W w) : RwIn 0 w r xa fa oa ka := h.row.mono (Nat.le_refl _) h.bel (Nat.le_refl _)
theorem Ak.lt (h : Ak w0 r xa fa oa ka wb sb S W w) : wb < w.heap.size ∧ sb < w.heap.size := ⟨h.wq.lt, h.sq.lt⟩
end

end Go.Proofs.Ytflomaagenjfpaa
