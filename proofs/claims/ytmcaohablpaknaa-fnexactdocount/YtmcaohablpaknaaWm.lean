import Derived.Test.YtmcaohablpaknaaWc
import Derived.Deep.RegionHeld3
namespace Go.Proofs.Ytmcaohablpaknaa
open Go.RowKit Go.ChangeShapes Go.WideShapes

/-- from where to where a counter is passed -/
def frF (K : Nat → Nat → Int) (o : Nat) (dir : Int) : Int := if dir = -1 then K o 1 else K o 0
def toF (K : Nat → Nat → Int) (o : Nat) (dir : Int) : Int := if dir = -1 then K o 0 else K o 1
theorem addSec_range {x : Sec} (y : Int) (h : -1000000 ≤ x.count ∧ x.count ≤ 1000000) : -1000000 ≤ (addSec x y).count ∧ (addSec x y).count ≤ 1000000 := by
  simp only [addSec]
  split <;> omega
theorem addF_range {S : Nat → Sec} {ns : Nat} (s y : Int) (h : ∀ i, i < ns → -1000000 ≤ (S i).count ∧ (S i).count ≤ 1000000) : ∀ i, i < ns → -1000000 ≤ (addF S s y i).count ∧ (addF S s y i).count ≤ 1000000 := by
  intro i hi
  simp only [addF]
  split
  · exact addSec_range y (h i hi)
  · exact h i hi
theorem Wk.new {w0 w : World} {c b : Nat} {sec : Int} {a : Option Addr} {n cap : Nat} {K : Nat → Nat → Int} {sa : Option Addr} {sc : Nat} {da : Option Addr} {dc ns : Nat} {S : Nat → Sec} {D : Nat → Bool} (h : Wk w0 w c b sec a n cap K sa sc da dc ns S D) (o : Obj) : Wk w0 (w.alloc o) c b sec a n cap K sa sc da dc ns S D := h.mono (bel1 w o) (Nat.le_refl _)
theorem Wk.drew {w0 w : World} {c b : Nat} {sec : Int} {a : Option Addr} {n cap : Nat} {K : Nat → Nat → Int} {sa : Option Addr} {sc : Nat} {da : Option Addr} {dc ns : Nat} {S : Nat → Sec} {D : Nat → Bool} (h : Wk w0 w c b sec a n cap K sa sc da dc ns S D) : Wk w0 w.drew c b sec a n cap K sa sc da dc ns S D := ⟨h.bel.drew, h.box.drew, h.cge, h.bge, h.rings.drew, ⟨h.st.s, h.st.d⟩, h.cnt⟩
theorem Wk.drewN {w0 w : World} {c b : Nat} {sec : Int} {a : Option Addr} {n cap : Nat} {K : Nat → Nat → Int} {sa : Option Addr} {sc : Nat} {da : Option Addr} {dc ns : Nat} {S : Nat → Sec} {D : Nat → Bool} (h : Wk w0 w c b sec a n cap K sa sc da dc ns S D) : ∀ k, Wk w0 (w.drewN k) c b sec a n cap K sa sc da dc ns S D := fun k => ⟨below_drewN h.bel k, h.box, h.cge, h.bge, h.rings.keep rfl fun _ _ _ => rfl, ⟨h.st.s, h.st.d⟩, h.cnt⟩

set_option maxRecDepth 10000 in
set_option maxHeartbeats 4000000 in
theorem sidesI (w0 : World) (c b : Nat) (sec : Int) (a : Option Addr) (n cap : Nat) (K : Nat → Nat → Int) (sa : Option Addr) (sc : Nat) (da : Option Addr) (dc ns : Nat) (S : Nat → Sec) (D : Nat → Bool) (op of dir : Int) (o : Nat) (hof : of = o) (ho : o < n) (n120 : n ≤ 120) (w : World) (h : Wk w0 w c b sec a n cap K sa sc da dc ns S D) :
    Calls Try.prog 77 #[.pointer (some ⟨c, 0, none⟩), .agg #[.int .i64 op, .int .i64 of, .int .i64 dir]] w fun e w' => e = .returned (.tuple #[.int .i64 (frF K o dir), .int .i64 (toF K o dir)]) ∧ Below w.heap.size w w' := by
  subst hof
  have x1 : w.cell? ⟨c, 1, none⟩ = some (.slice a n cap) := h.box.cell 1
  have z1 : c < w.heap.size := h.box.lt
  obtain ⟨b1, off, rfl, _, hb, hc⟩ := (h.cnt.mono (Nat.le_refl _) h.bel (Nat.le_refl _)) (by omega)
  have c0 : w.cell? ⟨b1, off + o * 2, none⟩ = some (.int .i64 (K o 0)) := hc o ho 0 (by omega)
  have c1 : w.cell? ⟨b1, off + o * 2 + 1, none⟩ = some (.int .i64 (K o 1)) := hc o ho 1 (by omega)
  have ho0 : (0 : Int) ≤ (o : Int) := by omega
  have ho1 : (o : Int) < (n : Int) := by omega
  clear hc h
  have v1 := World.new_ne w _ x1
  have v2 := World.new_ne w _ c0
  have v3 := World.new_ne w _ c1
  by_cases hd : dir = -1
  · subst hd
    have h1 : frF K o (-1) = K o 1 := rfl
    have h2 : toF K o (-1) = K o 0 := rfl
    rw [h1, h2]
    go_enter Try.func77, Try.ntmps77
    go_wp2_with fail
    go_region_held3 (fun w' => w'.cell? ⟨c, 1, none⟩ = some (.slice (some ⟨b1, off, none⟩) n cap) ∧ w'.cell? ⟨w.heap.size, 1, none⟩ = some (.int .i64 (o : Int)) ∧ w'.cell? ⟨w.heap.size, 2, none⟩ = some (.int .i64 (-1)) ∧ w'.cell? ⟨b1, off + o * 2, none⟩ = some (.int .i64 (K o 0)) ∧ w'.cell? ⟨b1, off + o * 2 + 1, none⟩ = some (.int .i64 (K o 1))) (go_keep) (fail)
    go_wp2_with fail
    go_quiet (fail)
    go_wp2_with fail
    go_ret2
    exact ⟨rfl, below_drewN (bel2 _ _ _).drew _⟩
  · have h1 : frF K o dir = K o 0 := by unfold frF; rw [if_neg hd]
    have h2 : toF K o dir = K o 1 := by unfold toF; rw [if_neg hd]
    rw [h1, h2]
    have hd2 : (dir == -1) = false := by simp [hd]
    clear hd
    go_enter Try.func77, Try.ntmps77
    go_wp2_with fail
    go_region_held3 (fun w' => w'.cell? ⟨c, 1, none⟩ = some (.slice (some ⟨b1, off, none⟩) n cap) ∧ w'.cell? ⟨w.heap.size, 1, none⟩ = some (.int .i64 (o : Int)) ∧ w'.cell? ⟨w.heap.size, 2, none⟩ = some (.int .i64 dir) ∧ w'.cell? ⟨b1, off + o * 2, none⟩ = some (.int .i64 (K o 0)) ∧ w'.cell? ⟨b1, off + o * 2 + 1, none⟩ = some (.int .i64 (K o 1))) (go_keep) (fail)
    go_wp2_with fail
    go_quiet (fail)
    go_wp2_with fail
    go_ret2
    exact ⟨rfl, below_drewN (bel2 _ _ _).drew _⟩

set_option maxRecDepth 10000 in
set_option maxHeartbeats 8000000 in
theorem passIL (w0 : World) (c b : Nat) (sec : Int) (a : Option Addr) (n cap : Nat) (K : Nat → Nat → Int) (sa : Option Addr) (sc : Nat) (da : Option Addr) (dc ns : Nat) (S : Nat → Sec) (D : Nat → Bool) (op of dir : Int) (o : Nat) (hof : of = o) (ho : o < n) (n120 : n ≤ 120) (hK0 : -1 ≤ K o 0 ∧ K o 0 < ns) (hK1 : -1 ≤ K o 1 ∧ K o 1 < ns) (h60 : ns ≤ 60) (hc : ∀ i, i < ns → -1000000 ≤ (S i).count ∧ (S i).count ≤ 1000000) (w : World) (hD : D o = false) (h : Wk w0 w c b sec a n cap K sa sc da dc ns S D) :
    Calls Try.prog 71 #[.pointer (some ⟨c, 0, none⟩), .agg #[.int .i64 op, .int .i64 of, .int .i64 dir]] w fun e w' => e = .returned (.int .i64 0) ∧ Wk w0 w' c b sec a n cap K sa sc da dc ns (addF (addF S (frF K o dir) (-1)) (toF K o dir) 1) D := by
  subst hof
  obtain ⟨gd, rfl, _, zg⟩ := h.st.d.addr (by omega)
  have x5 : w.cell? ⟨c, 5, none⟩ = some (.slice (some ⟨gd, 0, none⟩) n dc) := h.box.cell 5
  have z1 : c < w.heap.size := h.box.lt
  have d0 : w.cell? ⟨gd, o, none⟩ = some (.bool (D o)) := by have := h.st.d.cell ho (j := 0) (by omega); rwa [Nat.mul_one] at this
  have fd := h.st.d.free o
  have ho0 : (0 : Int) ≤ (o : Int) := by omega
  have ho1 : (o : Int) < (n : Int) := by omega
  have HW : Hid (Wk w0 (w.alloc (.cells #[.int .i64 op, .int .i64 (o : Int), .int .i64 dir] 49)) c b sec a n cap K sa sc (some ⟨gd, 0, none⟩) dc ns S D) := h.new _
  have HX : Hid (Box (w.alloc (.cells #[.int .i64 op, .int .i64 (o : Int), .int .i64 dir] 49)) w.heap.size 49 #[.int .i64 op, .int .i64 (o : Int), .int .i64 dir]) := Box.new w 49 _
  clear h
  have hf1 : -1 ≤ (frF K o dir) := by unfold frF; split <;> omega
  have hf2 : (frF K o dir) < (ns : Int) := by unfold frF; split <;> omega
  have ht1 : -1 ≤ (toF K o dir) := by unfold toF; split <;> omega
  have ht2 : (toF K o dir) < (ns : Int) := by unfold toF; split <;> omega
  rw [hD] at d0
  clear hD
  go_enter Try.func71, Try.ntmps71
  go_wp2_with fail
  go_quiet (fail)
  go_wp2_with fail
  refine (sidesI w0 c b sec a n cap K sa sc (some ⟨gd, 0, none⟩) dc ns S D op o dir o rfl ho n120 _ (HW.out.drewN _)).mono ?_
  rintro e w3 ⟨rfl, hb3⟩
  have HW3 : Hid (Wk w0 w3 c b sec a n cap K sa sc (some ⟨gd, 0, none⟩) dc ns S D) := (HW.out.drewN _).mono hb3 (Nat.le_refl _)
  clear hb3
  go_wp2_with fail
  refine (countM w0 c b sec a n cap K sa sc (some ⟨gd, 0, none⟩) dc ns S D (frF K o dir) _ hf1 hf2 h60 hc HW3.out).mono ?_
  rintro e w4 ⟨rfl, h4⟩
  have HW4 : Hid (Wk w0 w4 c b sec a n cap K sa sc (some ⟨gd, 0, none⟩) dc ns (addF S (frF K o dir) (-1)) D) := h4
  clear h4 HW3
  go_wp2_with fail
  refine (countP w0 c b sec a n cap K sa sc (some ⟨gd, 0, none⟩) dc ns (addF S (frF K o dir) (-1)) D (toF K o dir) _ ht1 ht2 h60 (addF_range _ _ hc) HW4.out).mono ?_
  rintro e w5 ⟨rfl, h5⟩
  have HW5 : Hid (Wk w0 w5 c b sec a n cap K sa sc (some ⟨gd, 0, none⟩) dc ns (addF (addF S (frF K o dir) (-1)) (toF K o dir) 1) D) := h5
  clear h5
  go_wp2_with fail
  go_ret
  exact ⟨rfl, HW5.out⟩

set_option maxRecDepth 10000 in
set_option maxHeartbeats 8000000 in
theorem passID (w0 : World) (c b : Nat) (sec : Int) (a : Option Addr) (n cap : Nat) (K : Nat → Nat → Int) (sa : Option Addr) (sc : Nat) (da : Option Addr) (dc ns : Nat) (S : Nat → Sec) (D : Nat → Bool) (op of dir : Int) (o : Nat) (hof : of = o) (ho : o < n) (n120 : n ≤ 120) (w : World) (hD : D o = true) (h : Wk w0 w c b sec a n cap K sa sc da dc ns S D) :
    Calls Try.prog 71 #[.pointer (some ⟨c, 0, none⟩), .agg #[.int .i64 op, .int .i64 of, .int .i64 dir]] w fun e w' => e = .returned (.int .i64 2) ∧ Wk w0 w' c b sec a n cap K sa sc da dc ns S D := by
  subst hof
  obtain ⟨gd, rfl, _, zg⟩ := h.st.d.addr (by omega)
  have x5 : w.cell? ⟨c, 5, none⟩ = some (.slice (some ⟨gd, 0, none⟩) n dc) := h.box.cell 5
  have z1 : c < w.heap.size := h.box.lt
  have d0 : w.cell? ⟨gd, o, none⟩ = some (.bool (D o)) := by have := h.st.d.cell ho (j := 0) (by omega); rwa [Nat.mul_one] at this
  have fd := h.st.d.free o
  have ho0 : (0 : Int) ≤ (o : Int) := by omega
  have ho1 : (o : Int) < (n : Int) := by omega
  have HW : Hid (Wk w0 (w.alloc (.cells #[.int .i64 op, .int .i64 (o : Int), .int .i64 dir] 49)) c b sec a n cap K sa sc (some ⟨gd, 0, none⟩) dc ns S D) := h.new _
  have HX : Hid (Box (w.alloc (.cells #[.int .i64 op, .int .i64 (o : Int), .int .i64 dir] 49)) w.heap.size 49 #[.int .i64 op, .int .i64 (o : Int), .int .i64 dir]) := Box.new w 49 _
  clear h
  rw [hD] at d0
  clear hD
  go_enter Try.func71, Try.ntmps71
  go_wp2_with fail
  go_quiet (fail)
  go_wp2_with fail
  go_ret
  exact ⟨rfl, HW.out.drewN _⟩

set_option maxRecDepth 10000 in
set_option maxHeartbeats 8000000 in
theorem ghostIL (w0 : World) (c b : Nat) (sec : Int) (a : Option Addr) (n cap : Nat) (K : Nat → Nat → Int) (sa : Option Addr) (sc : Nat) (da : Option Addr) (dc ns : Nat) (S : Nat → Sec) (D : Nat → Bool) (op of dir : Int) (o : Nat) (hof : of = o) (ho : o < n) (n120 : n ≤ 120) (hK0 : -1 ≤ K o 0 ∧ K o 0 < ns) (hK1 : -1 ≤ K o 1 ∧ K o 1 < ns) (h60 : ns ≤ 60) (hc : ∀ i, i < ns → -1000000 ≤ (S i).count ∧ (S i).count ≤ 1000000) (w : World) (hD : D o = false) (h : Wk w0 w c b sec a n cap K sa sc da dc ns S D) :
    Calls Try.prog 72 #[.pointer (some ⟨c, 0, none⟩), .agg #[.int .i64 op, .int .i64 of, .int .i64 dir]] w fun e w' => e = .returned (.int .i64 0) ∧ Wk w0 w' c b sec a n cap K sa sc da dc ns (addF S (toF K o dir) 1) D := by
  subst hof
  obtain ⟨gd, rfl, _, zg⟩ := h.st.d.addr (by omega)
  have x5 : w.cell? ⟨c, 5, none⟩ = some (.slice (some ⟨gd, 0, none⟩) n dc) := h.box.cell 5
  have z1 : c < w.heap.size := h.box.lt
  have d0 : w.cell? ⟨gd, o, none⟩ = some (.bool (D o)) := by have := h.st.d.cell ho (j := 0) (by omega); rwa [Nat.mul_one] at this
  have fd := h.st.d.free o
  have ho0 : (0 : Int) ≤ (o : Int) := by omega
  have ho1 : (o : Int) < (n : Int) := by omega
  have HW : Hid (Wk w0 (w.alloc (.cells #[.int .i64 op, .int .i64 (o : Int), .int .i64 dir] 49)) c b sec a n cap K sa sc (some ⟨gd, 0, none⟩) dc ns S D) := h.new _
  have HX : Hid (Box (w.alloc (.cells #[.int .i64 op, .int .i64 (o : Int), .int .i64 dir] 49)) w.heap.size 49 #[.int .i64 op, .int .i64 (o : Int), .int .i64 dir]) := Box.new w 49 _
  clear h
  have hf1 : -1 ≤ (frF K o dir) := by unfold frF; split <;> omega
  have hf2 : (frF K o dir) < (ns : Int) := by unfold frF; split <;> omega
  have ht1 : -1 ≤ (toF K o dir) := by unfold toF; split <;> omega
  have ht2 : (toF K o dir) < (ns : Int) := by unfold toF; split <;> omega
  rw [hD] at d0
  clear hD
  go_enter Try.func72, Try.ntmps72
  go_wp2_with fail
  go_quiet (fail)
  go_wp2_with fail
  refine (sidesI w0 c b sec a n cap K sa sc (some ⟨gd, 0, none⟩) dc ns S D op o dir o rfl ho n120 _ (HW.out.drewN _)).mono ?_
  rintro e w3 ⟨rfl, hb3⟩
  have HW3 : Hid (Wk w0 w3 c b sec a n cap K sa sc (some ⟨gd, 0, none⟩) dc ns S D) := (HW.out.drewN _).mono hb3 (Nat.le_refl _)
  clear hb3
  go_wp2_with fail
  refine (countP w0 c b sec a n cap K sa sc (some ⟨gd, 0, none⟩) dc ns S D (toF K o dir) _ ht1 ht2 h60 hc HW3.out).mono ?_
  rintro e w5 ⟨rfl, h5⟩
  have HW5 : Hid (Wk w0 w5 c b sec a n cap K sa sc (some ⟨gd, 0, none⟩) dc ns (addF S (toF K o dir) 1) D) := h5
  clear h5
  go_wp2_with fail
  go_ret
  exact ⟨rfl, HW5.out⟩

set_option maxRecDepth 10000 in
set_option maxHeartbeats 8000000 in
theorem ghostID (w0 : World) (c b : Nat) (sec : Int) (a : Option Addr) (n cap : Nat) (K : Nat → Nat → Int) (sa : Option Addr) (sc : Nat) (da : Option Addr) (dc ns : Nat) (S : Nat → Sec) (D : Nat → Bool) (op of dir : Int) (o : Nat) (hof : of = o) (ho : o < n) (n120 : n ≤ 120) (w : World) (hD : D o = true) (h : Wk w0 w c b sec a n cap K sa sc da dc ns S D) :
    Calls Try.prog 72 #[.pointer (some ⟨c, 0, none⟩), .agg #[.int .i64 op, .int .i64 of, .int .i64 dir]] w fun e w' => e = .returned (.int .i64 2) ∧ Wk w0 w' c b sec a n cap K sa sc da dc ns S D := by
  subst hof
  obtain ⟨gd, rfl, _, zg⟩ := h.st.d.addr (by omega)
  have x5 : w.cell? ⟨c, 5, none⟩ = some (.slice (some ⟨gd, 0, none⟩) n dc) := h.box.cell 5
  have z1 : c < w.heap.size := h.box.lt
  have d0 : w.cell? ⟨gd, o, none⟩ = some (.bool (D o)) := by have := h.st.d.cell ho (j := 0) (by omega); rwa [Nat.mul_one] at this
  have fd := h.st.d.free o
  have ho0 : (0 : Int) ≤ (o : Int) := by omega
  have ho1 : (o : Int) < (n : Int) := by omega
  have HW : Hid (Wk w0 (w.alloc (.cells #[.int .i64 op, .int .i64 (o : Int), .int .i64 dir] 49)) c b sec a n cap K sa sc (some ⟨gd, 0, none⟩) dc ns S D) := h.new _
  have HX : Hid (Box (w.alloc (.cells #[.int .i64 op, .int .i64 (o : Int), .int .i64 dir] 49)) w.heap.size 49 #[.int .i64 op, .int .i64 (o : Int), .int .i64 dir]) := Box.new w 49 _
  clear h
  rw [hD] at d0
  clear hD
  go_enter Try.func72, Try.ntmps72
  go_wp2_with fail
  go_quiet (fail)
  go_wp2_with fail
  go_ret
  exact ⟨rfl, HW.out.drewN _⟩

end Go.Proofs.Ytmcaohablpaknaa
