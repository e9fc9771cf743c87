import Derived.Test.YtmcaohablpaknaaWm
import Derived.Deep.RegionHeld3
namespace Go.Proofs.Ytmcaohablpaknaa
open Go.RowKit Go.ChangeShapes Go.WideShapes

theorem Box.newq (w : World) (T : TypeId) (vs : Array Value) {q : Nat} (hq : w.heap.size = q) : Box (w.alloc (.cells vs T)) q T vs := by
  subst hq
  exact Box.new w T vs

set_option maxRecDepth 10000 in
set_option maxHeartbeats 8000000 in
theorem liveI (w0 : World) (c b : Nat) (sec : Int) (a : Option Addr) (n cap : Nat) (K : Nat → Nat → Int) (sa : Option Addr) (sc : Nat) (da : Option Addr) (dc ns : Nat) (S : Nat → Sec) (D : Nat → Bool) (op of dir : Int) (o : Nat) (hof : of = o) (ho : o < n) (n120 : n ≤ 120)  (w : World) (h : Wk w0 w c b sec a n cap K sa sc da dc ns S D) :
    Calls Try.prog 74 #[.pointer (some ⟨c, 0, none⟩), .agg #[.int .i64 op, .int .i64 of, .int .i64 dir]] w fun e w' => e = .returned (.int .i64 0) ∧ Wk w0 w' c b sec a n cap K sa sc da dc ns S (updD D o false) := by
  subst hof
  obtain ⟨gd, rfl, _, zg⟩ := h.st.d.addr (by omega)
  have x5 : w.cell? ⟨c, 5, none⟩ = some (.slice (some ⟨gd, 0, none⟩) n dc) := h.box.cell 5
  have z1 : c < w.heap.size := h.box.lt
  have d0 : w.cell? ⟨gd, o, none⟩ = some (.bool (D o)) := by have := h.st.d.cell ho (j := 0) (by omega); rwa [Nat.mul_one] at this
  have fd := h.st.d.free o
  have ho0 : (0 : Int) ≤ (o : Int) := by omega
  have ho1 : (o : Int) < (n : Int) := by omega
  have HW : Hid (Wk w0 (w.alloc (.cells #[.int .i64 op, .int .i64 (o : Int), .int .i64 dir] 49)) c b sec a n cap K sa sc (some ⟨gd, 0, none⟩) dc ns S D) := h.new _
  have HX : Hid (Box (w.alloc (.cells #[.int .i64 op, .int .i64 (o : Int), .int .i64 dir] 49)) w.heap.size 49 #[.int .i64 op, .int .i64 (o : Int), .int .i64 dir]) := Box.new w 49 _
  have HP2 : Hid (Wk w0 ((w.setCell ⟨gd, o, none⟩ (.bool false)).alloc (.cells #[.int .i64 op, .int .i64 (o : Int), .int .i64 dir] 49)).drew c b sec a n cap K sa sc (some ⟨gd, 0, none⟩) dc ns S (updD D o false)) := ((h.putD ho false).new _).drew
  clear h
  have q1 := World.new_ne w _ x5
  have q2 := World.new_ne w _ d0
  have HW2 : Hid (Wk w0 ((w.setCell ⟨gd, o, none⟩ (.bool false)).alloc (.cells #[.int .i64 op, .int .i64 (o : Int), .int .i64 dir] 49)).drew c b sec a n cap K sa sc (some ⟨gd, 0, none⟩) dc ns S (updD D o false)) := HP2.out
  have s1 : ((w.setCell ⟨gd, o, none⟩ (.bool false)).alloc (.cells #[.int .i64 op, .int .i64 (o : Int), .int .i64 dir] 49)).drew.cell? ⟨c, 5, none⟩ = some (.slice (some ⟨gd, 0, none⟩) n dc) := HW2.out.box.cell 5
  have BX := (Box.newq (w.setCell ⟨gd, o, none⟩ (.bool false)) 49 #[.int .i64 op, .int .i64 (o : Int), .int .i64 dir] (size_setc _ _ _)).drew
  have s2 : ((w.setCell ⟨gd, o, none⟩ (.bool false)).alloc (.cells #[.int .i64 op, .int .i64 (o : Int), .int .i64 dir] 49)).drew.cell? ⟨w.heap.size, 0, none⟩ = some (.int .i64 op) := BX.cell 0
  have s3 : ((w.setCell ⟨gd, o, none⟩ (.bool false)).alloc (.cells #[.int .i64 op, .int .i64 (o : Int), .int .i64 dir] 49)).drew.cell? ⟨w.heap.size, 1, none⟩ = some (.int .i64 (o : Int)) := BX.cell 1
  have s4 : ((w.setCell ⟨gd, o, none⟩ (.bool false)).alloc (.cells #[.int .i64 op, .int .i64 (o : Int), .int .i64 dir] 49)).drew.cell? ⟨w.heap.size, 2, none⟩ = some (.int .i64 dir) := BX.cell 2
  clear BX
  go_enter Try.func74, Try.ntmps74
  go_wp2_with fail
  go_region_held3 (fun w' => w'.cell? ⟨c, 5, none⟩ = some (.slice (some ⟨gd, 0, none⟩) n dc) ∧ w'.cell? ⟨w.heap.size, 1, none⟩ = some (.int .i64 (o : Int))) (first | (go_split_ands; exact ⟨s1, s3⟩) | go_keep) (fail)
  go_wp2_with fail
  go_ret
  exact ⟨rfl, HW2.out⟩

set_option maxRecDepth 10000 in
set_option maxHeartbeats 8000000 in
theorem dieI (w0 : World) (c b : Nat) (sec : Int) (a : Option Addr) (n cap : Nat) (K : Nat → Nat → Int) (sa : Option Addr) (sc : Nat) (da : Option Addr) (dc ns : Nat) (S : Nat → Sec) (D : Nat → Bool) (op of dir : Int) (o : Nat) (hof : of = o) (ho : o < n) (n120 : n ≤ 120) (hK0 : -1 ≤ K o 0 ∧ K o 0 < ns) (hK1 : -1 ≤ K o 1 ∧ K o 1 < ns) (hdir : ¬ dir = -1) (h60 : ns ≤ 60) (w : World) (h : Wk w0 w c b sec a n cap K sa sc da dc ns S D) :
    Calls Try.prog 73 #[.pointer (some ⟨c, 0, none⟩), .agg #[.int .i64 op, .int .i64 of, .int .i64 dir]] w fun e w' => e = .returned (.int .i64 0) ∧ Wk w0 w' c b sec a n cap K sa sc da dc ns (loseF (loseF S (K o 0)) (K o 1)) (updD D o true) := by
  subst hof
  obtain ⟨gd, rfl, _, zg⟩ := h.st.d.addr (by omega)
  have x5 : w.cell? ⟨c, 5, none⟩ = some (.slice (some ⟨gd, 0, none⟩) n dc) := h.box.cell 5
  have z1 : c < w.heap.size := h.box.lt
  have d0 : w.cell? ⟨gd, o, none⟩ = some (.bool (D o)) := by have := h.st.d.cell ho (j := 0) (by omega); rwa [Nat.mul_one] at this
  have fd := h.st.d.free o
  have ho0 : (0 : Int) ≤ (o : Int) := by omega
  have ho1 : (o : Int) < (n : Int) := by omega
  have HW : Hid (Wk w0 (w.alloc (.cells #[.int .i64 op, .int .i64 (o : Int), .int .i64 dir] 49)) c b sec a n cap K sa sc (some ⟨gd, 0, none⟩) dc ns S D) := h.new _
  have HX : Hid (Box (w.alloc (.cells #[.int .i64 op, .int .i64 (o : Int), .int .i64 dir] 49)) w.heap.size 49 #[.int .i64 op, .int .i64 (o : Int), .int .i64 dir]) := Box.new w 49 _
  have HP2 : Hid (Wk w0 ((w.setCell ⟨gd, o, none⟩ (.bool true)).alloc (.cells #[.int .i64 op, .int .i64 (o : Int), .int .i64 dir] 49)).drew c b sec a n cap K sa sc (some ⟨gd, 0, none⟩) dc ns S (updD D o true)) := ((h.putD ho true).new _).drew
  clear h
  have q1 := World.new_ne w _ x5
  have q2 := World.new_ne w _ d0
  have HW2 : Hid (Wk w0 ((w.setCell ⟨gd, o, none⟩ (.bool true)).alloc (.cells #[.int .i64 op, .int .i64 (o : Int), .int .i64 dir] 49)).drew c b sec a n cap K sa sc (some ⟨gd, 0, none⟩) dc ns S (updD D o true)) := HP2.out
  have s1 : ((w.setCell ⟨gd, o, none⟩ (.bool true)).alloc (.cells #[.int .i64 op, .int .i64 (o : Int), .int .i64 dir] 49)).drew.cell? ⟨c, 5, none⟩ = some (.slice (some ⟨gd, 0, none⟩) n dc) := HW2.out.box.cell 5
  have BX := (Box.newq (w.setCell ⟨gd, o, none⟩ (.bool true)) 49 #[.int .i64 op, .int .i64 (o : Int), .int .i64 dir] (size_setc _ _ _)).drew
  have s2 : ((w.setCell ⟨gd, o, none⟩ (.bool true)).alloc (.cells #[.int .i64 op, .int .i64 (o : Int), .int .i64 dir] 49)).drew.cell? ⟨w.heap.size, 0, none⟩ = some (.int .i64 op) := BX.cell 0
  have s3 : ((w.setCell ⟨gd, o, none⟩ (.bool true)).alloc (.cells #[.int .i64 op, .int .i64 (o : Int), .int .i64 dir] 49)).drew.cell? ⟨w.heap.size, 1, none⟩ = some (.int .i64 (o : Int)) := BX.cell 1
  have s4 : ((w.setCell ⟨gd, o, none⟩ (.bool true)).alloc (.cells #[.int .i64 op, .int .i64 (o : Int), .int .i64 dir] 49)).drew.cell? ⟨w.heap.size, 2, none⟩ = some (.int .i64 dir) := BX.cell 2
  clear BX
  go_enter Try.func73, Try.ntmps73
  go_wp2_with fail
  go_region_held3 (fun w' => w'.cell? ⟨c, 5, none⟩ = some (.slice (some ⟨gd, 0, none⟩) n dc) ∧ w'.cell? ⟨w.heap.size, 1, none⟩ = some (.int .i64 (o : Int))) (first | (go_split_ands; exact ⟨s1, s3⟩) | go_keep) (fail)
  go_wp2_with fail
  refine (sidesI w0 c b sec a n cap K sa sc (some ⟨gd, 0, none⟩) dc ns S (updD D o true) op o dir o rfl ho n120 _ HW2.out).mono ?_
  rintro e w3 ⟨rfl, hb3⟩
  have HW3 : Hid (Wk w0 w3 c b sec a n cap K sa sc (some ⟨gd, 0, none⟩) dc ns S (updD D o true)) := HW2.out.mono hb3 (Nat.le_refl _)
  clear hb3
  have h1 : frF K o dir = K o 0 := by unfold frF; rw [if_neg hdir]
  have h2 : toF K o dir = K o 1 := by unfold toF; rw [if_neg hdir]
  rw [h1, h2]
  go_wp2_with fail
  refine (loseI w0 c b sec a n cap K sa sc (some ⟨gd, 0, none⟩) dc ns S (updD D o true) (K o 0) _ hK0.1 hK0.2 h60 HW3.out).mono ?_
  rintro e w4 ⟨rfl, h4⟩
  have HW4 : Hid (Wk w0 w4 c b sec a n cap K sa sc (some ⟨gd, 0, none⟩) dc ns (loseF S (K o 0)) (updD D o true)) := h4
  clear h4
  go_wp2_with fail
  refine (loseI w0 c b sec a n cap K sa sc (some ⟨gd, 0, none⟩) dc ns (loseF S (K o 0)) (updD D o true) (K o 1) _ hK1.1 hK1.2 h60 HW4.out).mono ?_
  rintro e w5 ⟨rfl, h5⟩
  have HW5 : Hid (Wk w0 w5 c b sec a n cap K sa sc (some ⟨gd, 0, none⟩) dc ns (loseF (loseF S (K o 0)) (K o 1)) (updD D o true)) := h5
  clear h5
  go_wp2_with fail
  go_ret
  exact ⟨rfl, HW5.out⟩

end Go.Proofs.Ytmcaohablpaknaa
