import Derived.Test.YtmcaohablpaknaaWd
import Derived.Deep.RegionHeld3
import Derived.Deep.CutBlock
namespace Go.Proofs.Ytmcaohablpaknaa
open Go.RowKit Go.ChangeShapes Go.WideShapes


theorem do_keep {w : World} {q g B : Nat} {v0 v1 v2 v3 : Value} (hq : q < B) (hg : B ≤ g) : ((((w.setCell ⟨q, 0, none⟩ v0).setCell ⟨q, 1, none⟩ v1).setCell ⟨q, 2, none⟩ v2).setCell ⟨q, 3, none⟩ v3).heap[g]? = w.heap[g]? := by
  have h1 : g ≠ q := by omega
  rw [Below.heap_setCell _ _ _ _ h1, Below.heap_setCell _ _ _ _ h1, Below.heap_setCell _ _ _ _ h1, Below.heap_setCell _ _ _ _ h1]

set_option maxRecDepth 100000 in
set_option maxHeartbeats 16000000 in
theorem do61 (W : World) (c b : Nat) (sec : Int) (a : Option Addr) (n cap : Nat) (K : Nat → Nat → Int) (sa : Option Addr) (s' : Nat) (da : Option Addr) (d' : Nat) (ns : Nat) (S : Nat → Sec) (D : Nat → Bool) (op : Int) (o : Nat) (dir : Int) (w : World) (hev : evB sec n op (o : Int) dir = true) (hG : LayGood sec n K) (k3 : (ns : Int) = sec) (hr : ∀ i, i < ns → -1000000 ≤ (S i).count ∧ (S i).count ≤ 1000000) (hk : Wk W w c b sec a n cap K sa s' da d' ns S D) :
    Calls Try.prog 61 #[.pointer (some ⟨c, 0, none⟩), .agg #[.int .i64 op, .int .i64 (o : Int), .int .i64 dir]] w fun e w' => e = .returned (.int .i64 (doStep K n S D op dir o).1) ∧ Wk W w' c b sec a n cap K sa s' da d' ns (tellN K n (doStep K n S D op dir o).2.2 (doStep K n S D op dir o).2.1 ns) (doStep K n S D op dir o).2.2 := by
  have n120 := hG.m
  have n60 : ns ≤ 60 := by have := hG.s2; omega
  have HG : Hid (LayGood sec n K) := hG
  have HC : Hid (∀ i, i < ns → -1000000 ≤ (S i).count ∧ (S i).count ≤ 1000000) := hr
  have HSec : Hid ((ns : Int) = sec) := k3
  have HK0 : Hid (Wk W w c b sec a n cap K sa s' da d' ns S D) := hk
  have hcs := evB_cases hev
  clear hev hG k3 hr hk
  rcases hcs with ⟨rfl, h1, h2⟩ | ⟨rfl, h1, h2⟩ | ⟨rfl, h1, h2, hdir⟩ | ⟨rfl, h1, h2⟩ | ⟨rfl, h1, h2⟩
  · have S0 : Hid (Wk W (w.alloc (.cells #[.int .i64 1, .int .i64 (o : Int), .int .i64 dir] 49)) c b sec a n cap K sa s' da d' ns S D ∧ Box (w.alloc (.cells #[.int .i64 1, .int .i64 (o : Int), .int .i64 dir] 49)) w.heap.size 49 #[.int .i64 1, .int .i64 (o : Int), .int .i64 dir]) := ⟨HK0.out.mono (bel1 _ _) (Nat.le_refl _), Box.new _ _ _⟩
    go_enter Try.func61, Try.ntmps61
    go_upto_region 1 with fail
    generalize w.alloc (.cells #[.int .i64 1, .int .i64 (o : Int), .int .i64 dir] 49) = V0 at S0 ⊢
    have e0 : V0.cell? ⟨w.heap.size, 0, none⟩ = some (.int .i64 1) := S0.out.2.cell 0
    have e1 : V0.cell? ⟨w.heap.size, 1, none⟩ = some (.int .i64 (o : Int)) := S0.out.2.cell 1
    have e2 : V0.cell? ⟨w.heap.size, 2, none⟩ = some (.int .i64 dir) := S0.out.2.cell 2
    have ze : w.heap.size < V0.heap.size := S0.out.2.lt
    have ho : o < n := by omega
    have hK0 : -1 ≤ K o 0 ∧ K o 0 < (ns : Int) := by have h1 := HG.out.f1 o ho; have h2 := HG.out.f2 o ho; have h3 := HSec.out; omega
    have hK1 : -1 ≤ K o 1 ∧ K o 1 < (ns : Int) := by have h1 := HG.out.t1 o ho; have h2 := HG.out.t2 o ho; have h3 := HSec.out; omega
    cases hD : D o
    · have hdo : Hid (doStep K n S D 1 dir o = (0, addF (addF S (frF K o dir) (-1)) (toF K o dir) 1, D)) := by
        show doStep K n S D 1 dir o = _
        simp [doStep, hD]
      have q1 := get1 c V0.drew
      have q2 := run_mapGet (V0.alloc (.map (evM c) 5)).drew V0.heap.size (evM c) 5 1 0 _ (heap_alloc_new V0 _) rfl
      go_wp2_with fail
      go_region_held3 (fun w' => w'.cell? ⟨w.heap.size, 0, none⟩ = some (.int .i64 1)) (go_keep) (first
        | (go_at_call 68; refine (eventsI c _).mono ?_; rintro e w3 ⟨rfl, rfl⟩; have m0 : (V0.drew.alloc (.map (evM c) 5)).cell? ⟨w.heap.size, 0, none⟩ = some (.int .i64 1) := (S0.out.2.drew.alloc _).cell 0; have m1 : (V0.alloc (.map (evM c) 5)).drew.cell? ⟨w.heap.size, 0, none⟩ = some (.int .i64 1) := (S0.out.2.alloc _).drew.cell 0))
      all_goals
        go_wp2_with fail
        refine (passIL W c b sec a n cap K sa s' da d' ns S D 1 o dir o rfl ho n120 hK0 hK1 n60 HC.out _ hD (by first | exact S0.out.1.drew.new _ | exact (S0.out.1.new _).drew)).mono ?_
        rintro e w5 ⟨rfl, h5⟩
        have HM : Hid (Wk W w5 c b sec a n cap K sa s' da d' ns (addF (addF S (frF K o dir) (-1)) (toF K o dir) 1) (D)) := h5
        clear h5
        go_wp2_with fail
        refine (tellI W c b sec a n cap K sa s' da d' ns (addF (addF S (frF K o dir) (-1)) (toF K o dir) 1) (D) n120 n60 _ HM.out).mono ?_
        rintro e w6 ⟨rfl, h6⟩
        have H6 : Hid (Wk W w6 c b sec a n cap K sa s' da d' ns (tellN K n (D) (addF (addF S (frF K o dir) (-1)) (toF K o dir) 1) ns) (D)) := h6
        clear h6
        go_wp2_with fail
        go_ret
        exact ⟨by rw [hdo.out]; rfl, by rw [hdo.out]; exact H6.out⟩
    · have hdo : Hid (doStep K n S D 1 dir o = (2, S, D)) := by
        show doStep K n S D 1 dir o = _
        simp [doStep, hD]
      have q1 := get1 c V0.drew
      have q2 := run_mapGet (V0.alloc (.map (evM c) 5)).drew V0.heap.size (evM c) 5 1 0 _ (heap_alloc_new V0 _) rfl
      go_wp2_with fail
      go_region_held3 (fun w' => w'.cell? ⟨w.heap.size, 0, none⟩ = some (.int .i64 1)) (go_keep) (first
        | (go_at_call 68; refine (eventsI c _).mono ?_; rintro e w3 ⟨rfl, rfl⟩; have m0 : (V0.drew.alloc (.map (evM c) 5)).cell? ⟨w.heap.size, 0, none⟩ = some (.int .i64 1) := (S0.out.2.drew.alloc _).cell 0; have m1 : (V0.alloc (.map (evM c) 5)).drew.cell? ⟨w.heap.size, 0, none⟩ = some (.int .i64 1) := (S0.out.2.alloc _).drew.cell 0))
      all_goals
        go_wp2_with fail
        refine (passID W c b sec a n cap K sa s' da d' ns S D 1 o dir o rfl ho n120 _ hD (by first | exact S0.out.1.drew.new _ | exact (S0.out.1.new _).drew)).mono ?_
        rintro e w5 ⟨rfl, h5⟩
        have HM : Hid (Wk W w5 c b sec a n cap K sa s' da d' ns (S) (D)) := h5
        clear h5
        go_wp2_with fail
        refine (tellI W c b sec a n cap K sa s' da d' ns (S) (D) n120 n60 _ HM.out).mono ?_
        rintro e w6 ⟨rfl, h6⟩
        have H6 : Hid (Wk W w6 c b sec a n cap K sa s' da d' ns (tellN K n (D) (S) ns) (D)) := h6
        clear h6
        go_wp2_with fail
        go_ret
        exact ⟨by rw [hdo.out]; rfl, by rw [hdo.out]; exact H6.out⟩
  · have S0 : Hid (Wk W (w.alloc (.cells #[.int .i64 2, .int .i64 (o : Int), .int .i64 dir] 49)) c b sec a n cap K sa s' da d' ns S D ∧ Box (w.alloc (.cells #[.int .i64 2, .int .i64 (o : Int), .int .i64 dir] 49)) w.heap.size 49 #[.int .i64 2, .int .i64 (o : Int), .int .i64 dir]) := ⟨HK0.out.mono (bel1 _ _) (Nat.le_refl _), Box.new _ _ _⟩
    go_enter Try.func61, Try.ntmps61
    go_upto_region 1 with fail
    generalize w.alloc (.cells #[.int .i64 2, .int .i64 (o : Int), .int .i64 dir] 49) = V0 at S0 ⊢
    have e0 : V0.cell? ⟨w.heap.size, 0, none⟩ = some (.int .i64 2) := S0.out.2.cell 0
    have e1 : V0.cell? ⟨w.heap.size, 1, none⟩ = some (.int .i64 (o : Int)) := S0.out.2.cell 1
    have e2 : V0.cell? ⟨w.heap.size, 2, none⟩ = some (.int .i64 dir) := S0.out.2.cell 2
    have ze : w.heap.size < V0.heap.size := S0.out.2.lt
    have ho : o < n := by omega
    have hK0 : -1 ≤ K o 0 ∧ K o 0 < (ns : Int) := by have h1 := HG.out.f1 o ho; have h2 := HG.out.f2 o ho; have h3 := HSec.out; omega
    have hK1 : -1 ≤ K o 1 ∧ K o 1 < (ns : Int) := by have h1 := HG.out.t1 o ho; have h2 := HG.out.t2 o ho; have h3 := HSec.out; omega
    cases hD : D o
    · have hdo : Hid (doStep K n S D 2 dir o = (0, addF S (toF K o dir) 1, D)) := by
        show doStep K n S D 2 dir o = _
        simp [doStep, hD]
      have q1 := get2 c V0.drew
      have q2 := run_mapGet (V0.alloc (.map (evM c) 5)).drew V0.heap.size (evM c) 5 2 1 _ (heap_alloc_new V0 _) rfl
      go_wp2_with fail
      go_region_held3 (fun w' => w'.cell? ⟨w.heap.size, 0, none⟩ = some (.int .i64 2)) (go_keep) (first
        | (go_at_call 68; refine (eventsI c _).mono ?_; rintro e w3 ⟨rfl, rfl⟩; have m0 : (V0.drew.alloc (.map (evM c) 5)).cell? ⟨w.heap.size, 0, none⟩ = some (.int .i64 2) := (S0.out.2.drew.alloc _).cell 0; have m1 : (V0.alloc (.map (evM c) 5)).drew.cell? ⟨w.heap.size, 0, none⟩ = some (.int .i64 2) := (S0.out.2.alloc _).drew.cell 0))
      all_goals
        go_wp2_with fail
        refine (ghostIL W c b sec a n cap K sa s' da d' ns S D 2 o dir o rfl ho n120 hK0 hK1 n60 HC.out _ hD (by first | exact S0.out.1.drew.new _ | exact (S0.out.1.new _).drew)).mono ?_
        rintro e w5 ⟨rfl, h5⟩
        have HM : Hid (Wk W w5 c b sec a n cap K sa s' da d' ns (addF S (toF K o dir) 1) (D)) := h5
        clear h5
        go_wp2_with fail
        refine (tellI W c b sec a n cap K sa s' da d' ns (addF S (toF K o dir) 1) (D) n120 n60 _ HM.out).mono ?_
        rintro e w6 ⟨rfl, h6⟩
        have H6 : Hid (Wk W w6 c b sec a n cap K sa s' da d' ns (tellN K n (D) (addF S (toF K o dir) 1) ns) (D)) := h6
        clear h6
        go_wp2_with fail
        go_ret
        exact ⟨by rw [hdo.out]; rfl, by rw [hdo.out]; exact H6.out⟩
    · have hdo : Hid (doStep K n S D 2 dir o = (2, S, D)) := by
        show doStep K n S D 2 dir o = _
        simp [doStep, hD]
      have q1 := get2 c V0.drew
      have q2 := run_mapGet (V0.alloc (.map (evM c) 5)).drew V0.heap.size (evM c) 5 2 1 _ (heap_alloc_new V0 _) rfl
      go_wp2_with fail
      go_region_held3 (fun w' => w'.cell? ⟨w.heap.size, 0, none⟩ = some (.int .i64 2)) (go_keep) (first
        | (go_at_call 68; refine (eventsI c _).mono ?_; rintro e w3 ⟨rfl, rfl⟩; have m0 : (V0.drew.alloc (.map (evM c) 5)).cell? ⟨w.heap.size, 0, none⟩ = some (.int .i64 2) := (S0.out.2.drew.alloc _).cell 0; have m1 : (V0.alloc (.map (evM c) 5)).drew.cell? ⟨w.heap.size, 0, none⟩ = some (.int .i64 2) := (S0.out.2.alloc _).drew.cell 0))
      all_goals
        go_wp2_with fail
        refine (ghostID W c b sec a n cap K sa s' da d' ns S D 2 o dir o rfl ho n120 _ hD (by first | exact S0.out.1.drew.new _ | exact (S0.out.1.new _).drew)).mono ?_
        rintro e w5 ⟨rfl, h5⟩
        have HM : Hid (Wk W w5 c b sec a n cap K sa s' da d' ns (S) (D)) := h5
        clear h5
        go_wp2_with fail
        refine (tellI W c b sec a n cap K sa s' da d' ns (S) (D) n120 n60 _ HM.out).mono ?_
        rintro e w6 ⟨rfl, h6⟩
        have H6 : Hid (Wk W w6 c b sec a n cap K sa s' da d' ns (tellN K n (D) (S) ns) (D)) := h6
        clear h6
        go_wp2_with fail
        go_ret
        exact ⟨by rw [hdo.out]; rfl, by rw [hdo.out]; exact H6.out⟩
  · have S0 : Hid (Wk W (w.alloc (.cells #[.int .i64 3, .int .i64 (o : Int), .int .i64 dir] 49)) c b sec a n cap K sa s' da d' ns S D ∧ Box (w.alloc (.cells #[.int .i64 3, .int .i64 (o : Int), .int .i64 dir] 49)) w.heap.size 49 #[.int .i64 3, .int .i64 (o : Int), .int .i64 dir]) := ⟨HK0.out.mono (bel1 _ _) (Nat.le_refl _), Box.new _ _ _⟩
    have HDir : Hid (¬ dir = -1) := by show ¬ dir = -1; omega
    clear hdir
    go_enter Try.func61, Try.ntmps61
    go_upto_region 1 with fail
    generalize w.alloc (.cells #[.int .i64 3, .int .i64 (o : Int), .int .i64 dir] 49) = V0 at S0 ⊢
    have e0 : V0.cell? ⟨w.heap.size, 0, none⟩ = some (.int .i64 3) := S0.out.2.cell 0
    have e1 : V0.cell? ⟨w.heap.size, 1, none⟩ = some (.int .i64 (o : Int)) := S0.out.2.cell 1
    have e2 : V0.cell? ⟨w.heap.size, 2, none⟩ = some (.int .i64 dir) := S0.out.2.cell 2
    have ze : w.heap.size < V0.heap.size := S0.out.2.lt
    have ho : o < n := by omega
    have hK0 : -1 ≤ K o 0 ∧ K o 0 < (ns : Int) := by have h1 := HG.out.f1 o ho; have h2 := HG.out.f2 o ho; have h3 := HSec.out; omega
    have hK1 : -1 ≤ K o 1 ∧ K o 1 < (ns : Int) := by have h1 := HG.out.t1 o ho; have h2 := HG.out.t2 o ho; have h3 := HSec.out; omega
    have hdo : Hid (doStep K n S D 3 dir o = (0, loseF (loseF S (K o 0)) (K o 1), updD D o true)) := by
      show doStep K n S D 3 dir o = _
      simp [doStep]
    have q1 := get3 c V0.drew
    have q2 := run_mapGet (V0.alloc (.map (evM c) 5)).drew V0.heap.size (evM c) 5 3 2 _ (heap_alloc_new V0 _) rfl
    go_wp2_with fail
    go_region_held3 (fun w' => w'.cell? ⟨w.heap.size, 0, none⟩ = some (.int .i64 3)) (go_keep) (first
      | (go_at_call 68; refine (eventsI c _).mono ?_; rintro e w3 ⟨rfl, rfl⟩; have m0 : (V0.drew.alloc (.map (evM c) 5)).cell? ⟨w.heap.size, 0, none⟩ = some (.int .i64 3) := (S0.out.2.drew.alloc _).cell 0; have m1 : (V0.alloc (.map (evM c) 5)).drew.cell? ⟨w.heap.size, 0, none⟩ = some (.int .i64 3) := (S0.out.2.alloc _).drew.cell 0))
    all_goals
      go_wp2_with fail
      refine (dieI W c b sec a n cap K sa s' da d' ns S D 3 o dir o rfl ho n120 hK0 hK1 HDir.out n60 _ (by first | exact S0.out.1.drew.new _ | exact (S0.out.1.new _).drew)).mono ?_
      rintro e w5 ⟨rfl, h5⟩
      have HM : Hid (Wk W w5 c b sec a n cap K sa s' da d' ns (loseF (loseF S (K o 0)) (K o 1)) (updD D o true)) := h5
      clear h5
      go_wp2_with fail
      refine (tellI W c b sec a n cap K sa s' da d' ns (loseF (loseF S (K o 0)) (K o 1)) (updD D o true) n120 n60 _ HM.out).mono ?_
      rintro e w6 ⟨rfl, h6⟩
      have H6 : Hid (Wk W w6 c b sec a n cap K sa s' da d' ns (tellN K n (updD D o true) (loseF (loseF S (K o 0)) (K o 1)) ns) (updD D o true)) := h6
      clear h6
      go_wp2_with fail
      go_ret
      exact ⟨by rw [hdo.out]; rfl, by rw [hdo.out]; exact H6.out⟩
  · have S0 : Hid (Wk W (w.alloc (.cells #[.int .i64 4, .int .i64 (o : Int), .int .i64 dir] 49)) c b sec a n cap K sa s' da d' ns S D ∧ Box (w.alloc (.cells #[.int .i64 4, .int .i64 (o : Int), .int .i64 dir] 49)) w.heap.size 49 #[.int .i64 4, .int .i64 (o : Int), .int .i64 dir]) := ⟨HK0.out.mono (bel1 _ _) (Nat.le_refl _), Box.new _ _ _⟩
    go_enter Try.func61, Try.ntmps61
    go_upto_region 1 with fail
    generalize w.alloc (.cells #[.int .i64 4, .int .i64 (o : Int), .int .i64 dir] 49) = V0 at S0 ⊢
    have e0 : V0.cell? ⟨w.heap.size, 0, none⟩ = some (.int .i64 4) := S0.out.2.cell 0
    have e1 : V0.cell? ⟨w.heap.size, 1, none⟩ = some (.int .i64 (o : Int)) := S0.out.2.cell 1
    have e2 : V0.cell? ⟨w.heap.size, 2, none⟩ = some (.int .i64 dir) := S0.out.2.cell 2
    have ze : w.heap.size < V0.heap.size := S0.out.2.lt
    have ho : o < n := by omega
    have hK0 : -1 ≤ K o 0 ∧ K o 0 < (ns : Int) := by have h1 := HG.out.f1 o ho; have h2 := HG.out.f2 o ho; have h3 := HSec.out; omega
    have hK1 : -1 ≤ K o 1 ∧ K o 1 < (ns : Int) := by have h1 := HG.out.t1 o ho; have h2 := HG.out.t2 o ho; have h3 := HSec.out; omega
    have hdo : Hid (doStep K n S D 4 dir o = (0, S, updD D o false)) := by
      show doStep K n S D 4 dir o = _
      simp [doStep]
    have q1 := get4 c V0.drew
    have q2 := run_mapGet (V0.alloc (.map (evM c) 5)).drew V0.heap.size (evM c) 5 4 3 _ (heap_alloc_new V0 _) rfl
    go_wp2_with fail
    go_region_held3 (fun w' => w'.cell? ⟨w.heap.size, 0, none⟩ = some (.int .i64 4)) (go_keep) (first
      | (go_at_call 68; refine (eventsI c _).mono ?_; rintro e w3 ⟨rfl, rfl⟩; have m0 : (V0.drew.alloc (.map (evM c) 5)).cell? ⟨w.heap.size, 0, none⟩ = some (.int .i64 4) := (S0.out.2.drew.alloc _).cell 0; have m1 : (V0.alloc (.map (evM c) 5)).drew.cell? ⟨w.heap.size, 0, none⟩ = some (.int .i64 4) := (S0.out.2.alloc _).drew.cell 0))
    all_goals
      go_wp2_with fail
      refine (liveI W c b sec a n cap K sa s' da d' ns S D 4 o dir o rfl ho n120  _ (by first | exact S0.out.1.drew.new _ | exact (S0.out.1.new _).drew)).mono ?_
      rintro e w5 ⟨rfl, h5⟩
      have HM : Hid (Wk W w5 c b sec a n cap K sa s' da d' ns (S) (updD D o false)) := h5
      clear h5
      go_wp2_with fail
      refine (tellI W c b sec a n cap K sa s' da d' ns (S) (updD D o false) n120 n60 _ HM.out).mono ?_
      rintro e w6 ⟨rfl, h6⟩
      have H6 : Hid (Wk W w6 c b sec a n cap K sa s' da d' ns (tellN K n (updD D o false) (S) ns) (updD D o false)) := h6
      clear h6
      go_wp2_with fail
      go_ret
      exact ⟨by rw [hdo.out]; rfl, by rw [hdo.out]; exact H6.out⟩
  · have S0 : Hid (Wk W (w.alloc (.cells #[.int .i64 5, .int .i64 (o : Int), .int .i64 dir] 49)) c b sec a n cap K sa s' da d' ns S D ∧ Box (w.alloc (.cells #[.int .i64 5, .int .i64 (o : Int), .int .i64 dir] 49)) w.heap.size 49 #[.int .i64 5, .int .i64 (o : Int), .int .i64 dir]) := ⟨HK0.out.mono (bel1 _ _) (Nat.le_refl _), Box.new _ _ _⟩
    go_enter Try.func61, Try.ntmps61
    go_upto_region 1 with fail
    generalize w.alloc (.cells #[.int .i64 5, .int .i64 (o : Int), .int .i64 dir] 49) = V0 at S0 ⊢
    have e0 : V0.cell? ⟨w.heap.size, 0, none⟩ = some (.int .i64 5) := S0.out.2.cell 0
    have e1 : V0.cell? ⟨w.heap.size, 1, none⟩ = some (.int .i64 (o : Int)) := S0.out.2.cell 1
    have e2 : V0.cell? ⟨w.heap.size, 2, none⟩ = some (.int .i64 dir) := S0.out.2.cell 2
    have ze : w.heap.size < V0.heap.size := S0.out.2.lt
    have ho : o < ns := by have := HSec.out; omega
    cases hdd : deadB K n D o
    · by_cases hl : (S o).last = 1
      · have hdo : Hid (doStep K n S D 5 dir o = (4, S, D)) := by
          show doStep K n S D 5 dir o = _
          simp [doStep, hdd, hl]
        have q1 := get5 c V0.drew
        have q2 := run_mapGet (V0.alloc (.map (evM c) 5)).drew V0.heap.size (evM c) 5 5 4 _ (heap_alloc_new V0 _) rfl
        go_wp2_with fail
        go_region_held3 (fun w' => w'.cell? ⟨w.heap.size, 0, none⟩ = some (.int .i64 5)) (go_keep) (first
          | (go_at_call 68; refine (eventsI c _).mono ?_; rintro e w3 ⟨rfl, rfl⟩; have m0 : (V0.drew.alloc (.map (evM c) 5)).cell? ⟨w.heap.size, 0, none⟩ = some (.int .i64 5) := (S0.out.2.drew.alloc _).cell 0; have m1 : (V0.alloc (.map (evM c) 5)).drew.cell? ⟨w.heap.size, 0, none⟩ = some (.int .i64 5) := (S0.out.2.alloc _).drew.cell 0))
        all_goals
          go_wp2_with fail
          refine (reset4 W c b sec a n cap K sa s' da d' ns S D 5 o dir o rfl ho n120 n60 hdd hl _ (by first | exact S0.out.1.drew.new _ | exact (S0.out.1.new _).drew)).mono ?_
          rintro e w5 ⟨rfl, h5⟩
          have HM : Hid (Wk W w5 c b sec a n cap K sa s' da d' ns (S) (D)) := h5
          clear h5
          go_wp2_with fail
          refine (tellI W c b sec a n cap K sa s' da d' ns (S) (D) n120 n60 _ HM.out).mono ?_
          rintro e w6 ⟨rfl, h6⟩
          have H6 : Hid (Wk W w6 c b sec a n cap K sa s' da d' ns (tellN K n (D) (S) ns) (D)) := h6
          clear h6
          go_wp2_with fail
          go_ret
          exact ⟨by rw [hdo.out]; rfl, by rw [hdo.out]; exact H6.out⟩
      · have hdo : Hid (doStep K n S D 5 dir o = (0, updS S o ⟨0, 0, false, true, 0⟩, D)) := by
          show doStep K n S D 5 dir o = _
          simp [doStep, hdd, hl]
        have q1 := get5 c V0.drew
        have q2 := run_mapGet (V0.alloc (.map (evM c) 5)).drew V0.heap.size (evM c) 5 5 4 _ (heap_alloc_new V0 _) rfl
        go_wp2_with fail
        go_region_held3 (fun w' => w'.cell? ⟨w.heap.size, 0, none⟩ = some (.int .i64 5)) (go_keep) (first
          | (go_at_call 68; refine (eventsI c _).mono ?_; rintro e w3 ⟨rfl, rfl⟩; have m0 : (V0.drew.alloc (.map (evM c) 5)).cell? ⟨w.heap.size, 0, none⟩ = some (.int .i64 5) := (S0.out.2.drew.alloc _).cell 0; have m1 : (V0.alloc (.map (evM c) 5)).drew.cell? ⟨w.heap.size, 0, none⟩ = some (.int .i64 5) := (S0.out.2.alloc _).drew.cell 0))
        all_goals
          go_wp2_with fail
          refine (reset0 W c b sec a n cap K sa s' da d' ns S D 5 o dir o rfl ho n120 n60 hdd hl _ (by first | exact S0.out.1.drew.new _ | exact (S0.out.1.new _).drew)).mono ?_
          rintro e w5 ⟨rfl, h5⟩
          have HM : Hid (Wk W w5 c b sec a n cap K sa s' da d' ns (updS S o ⟨0, 0, false, true, 0⟩) (D)) := h5
          clear h5
          go_wp2_with fail
          refine (tellI W c b sec a n cap K sa s' da d' ns (updS S o ⟨0, 0, false, true, 0⟩) (D) n120 n60 _ HM.out).mono ?_
          rintro e w6 ⟨rfl, h6⟩
          have H6 : Hid (Wk W w6 c b sec a n cap K sa s' da d' ns (tellN K n (D) (updS S o ⟨0, 0, false, true, 0⟩) ns) (D)) := h6
          clear h6
          go_wp2_with fail
          go_ret
          exact ⟨by rw [hdo.out]; rfl, by rw [hdo.out]; exact H6.out⟩
    · have hdo : Hid (doStep K n S D 5 dir o = (3, S, D)) := by
        show doStep K n S D 5 dir o = _
        simp [doStep, hdd]
      have q1 := get5 c V0.drew
      have q2 := run_mapGet (V0.alloc (.map (evM c) 5)).drew V0.heap.size (evM c) 5 5 4 _ (heap_alloc_new V0 _) rfl
      go_wp2_with fail
      go_region_held3 (fun w' => w'.cell? ⟨w.heap.size, 0, none⟩ = some (.int .i64 5)) (go_keep) (first
        | (go_at_call 68; refine (eventsI c _).mono ?_; rintro e w3 ⟨rfl, rfl⟩; have m0 : (V0.drew.alloc (.map (evM c) 5)).cell? ⟨w.heap.size, 0, none⟩ = some (.int .i64 5) := (S0.out.2.drew.alloc _).cell 0; have m1 : (V0.alloc (.map (evM c) 5)).drew.cell? ⟨w.heap.size, 0, none⟩ = some (.int .i64 5) := (S0.out.2.alloc _).drew.cell 0))
      all_goals
        go_wp2_with fail
        refine (reset3 W c b sec a n cap K sa s' da d' ns S D 5 o dir o rfl ho n120 n60 hdd _ (by first | exact S0.out.1.drew.new _ | exact (S0.out.1.new _).drew)).mono ?_
        rintro e w5 ⟨rfl, h5⟩
        have HM : Hid (Wk W w5 c b sec a n cap K sa s' da d' ns (S) (D)) := h5
        clear h5
        go_wp2_with fail
        refine (tellI W c b sec a n cap K sa s' da d' ns (S) (D) n120 n60 _ HM.out).mono ?_
        rintro e w6 ⟨rfl, h6⟩
        have H6 : Hid (Wk W w6 c b sec a n cap K sa s' da d' ns (tellN K n (D) (S) ns) (D)) := h6
        clear h6
        go_wp2_with fail
        go_ret
        exact ⟨by rw [hdo.out]; rfl, by rw [hdo.out]; exact H6.out⟩
set_option maxRecDepth 100000 in
set_option maxHeartbeats 16000000 in
theorem doI_ok (sec : Int) (a : Option Addr) (n cap : Nat) (K : Nat → Nat → Int) (ok : Bool) (sb db : Nat) (ns nd sc dc : Nat) (S : Nat → Sec) (D : Nat → Bool) (op of dir : Int) (w : World) (hn : n ≤ 1048576) (hns : ns ≤ 1048576) (hnd : nd ≤ 1048576) (hE : VsAt 2 0 w a n (intF K)) (hS : VsAt 5 0 w (some ⟨sb, 0, none⟩) ns (secF S)) (hD : VsAt 1 0 w (some ⟨db, 0, none⟩) nd (boolF D)) (hv : dV sec n K ok ns nd S D op of dir = true) :
    Calls Try.prog 31 #[.agg #[.int .i64 sec, .slice a n cap], .agg #[.bool ok, .slice (some ⟨sb, 0, none⟩) ns sc, .slice (some ⟨db, 0, none⟩) nd dc], .agg #[.int .i64 op, .int .i64 of, .int .i64 dir]] w fun e w' => ∃ sa' sc' da' dc', e = .returned (.agg #[.int .i64 (doStep K n S D op dir of.toNat).1, .bool true, .slice sa' ns sc', .slice da' n dc']) ∧ StOwn w.heap.size w' sa' sc' da' dc' ns n (tellN K n (doStep K n S D op dir of.toNat).2.2 (doStep K n S D op dir of.toNat).2.1 ns) (doStep K n S D op dir of.toNat).2.2 ∧ Below w.heap.size w w' := by
  have hv2 : coB sec n K ok ns nd S D = true ∧ evB sec n op of dir = true := by unfold dV at hv; simpa using hv
  obtain ⟨hco, hev⟩ := hv2
  have hC := coB_iff hco
  obtain ⟨k1, k2, k3, k4, k5⟩ := hC
  have hG := layGood k1
  have n120 := hG.m
  have n60 : ns ≤ 60 := by have := hG.s2; omega
  have hr : ∀ i, i < ns → -1000000 ≤ (S i).count ∧ (S i).count ≤ 1000000 := fun i hi => secOk_range (k5 i hi)
  have HVf : Hid ((decide (layOk sec n K = 0) && evB sec n op of dir) = true) := by
    show (_ && _) = true
    rw [hev, k1]
    rfl
  have HG : Hid (LayGood sec n K) := hG
  have HC : Hid (∀ i, i < ns → -1000000 ≤ (S i).count ∧ (S i).count ≤ 1000000) := hr
  have HSec : Hid ((ns : Int) = sec) := k3
  obtain rfl : n = nd := k4.symm
  subst k2
  clear k1 k3 k5 hr hG hv
  obtain ⟨o, hof⟩ : ∃ o : Nat, of = o := ⟨of.toNat, by rcases evB_cases hev with h | h | h | h | h <;> omega⟩
  subst hof
  rw [Int.toNat_natCast]
  have HE0 : Hid (VsAt 2 0 w a n (intF K) ∧ VsAt 5 0 w (some ⟨sb, 0, none⟩) ns (secF S) ∧ VsAt 1 0 w (some ⟨db, 0, none⟩) n (boolF D)) := ⟨hE, hS, hD⟩
  have HEV : Hid (evB sec n op (o : Int) dir = true) := hev
  clear hE hS hD hev
  go_enter Try.func31, Try.ntmps31
  go_wp2_with fail
  have B0 := bel4 w (.cells #[.int .i64 sec, .slice a n cap] 29) (.cells #[.bool true, .slice (some ⟨sb, 0, none⟩) ns sc, .slice (some ⟨db, 0, none⟩) n dc] 42) (.cells #[.int .i64 op, .int .i64 (o : Int), .int .i64 dir] 49) (.cells #[.int .i64 0, .bool false, .slice none 0 0, .slice none 0 0] 57)
  have L0 := (((Box.newq w 29 #[.int .i64 sec, .slice a n cap] rfl).alloc (.cells #[.bool true, .slice (some ⟨sb, 0, none⟩) ns sc, .slice (some ⟨db, 0, none⟩) n dc] 42)).alloc (.cells #[.int .i64 op, .int .i64 (o : Int), .int .i64 dir] 49)).alloc (.cells #[.int .i64 0, .bool false, .slice none 0 0, .slice none 0 0] 57)
  have E0 := (Box.newq ((w.alloc (.cells #[.int .i64 sec, .slice a n cap] 29)).alloc (.cells #[.bool true, .slice (some ⟨sb, 0, none⟩) ns sc, .slice (some ⟨db, 0, none⟩) n dc] 42)) 49 #[.int .i64 op, .int .i64 (o : Int), .int .i64 dir] (q := w.heap.size + 1 + 1) (by simp)).alloc (.cells #[.int .i64 0, .bool false, .slice none 0 0, .slice none 0 0] 57)
  have R0 := Box.newq (((w.alloc (.cells #[.int .i64 sec, .slice a n cap] 29)).alloc (.cells #[.bool true, .slice (some ⟨sb, 0, none⟩) ns sc, .slice (some ⟨db, 0, none⟩) n dc] 42)).alloc (.cells #[.int .i64 op, .int .i64 (o : Int), .int .i64 dir] 49)) 57 #[.int .i64 0, .bool false, .slice none 0 0, .slice none 0 0] (q := w.heap.size + 1 + 1 + 1) (by simp)
  have HB0 : Hid (Below w.heap.size w ((((w.alloc (.cells #[.int .i64 sec, .slice a n cap] 29)).alloc (.cells #[.bool true, .slice (some ⟨sb, 0, none⟩) ns sc, .slice (some ⟨db, 0, none⟩) n dc] 42)).alloc (.cells #[.int .i64 op, .int .i64 (o : Int), .int .i64 dir] 49)).alloc (.cells #[.int .i64 0, .bool false, .slice none 0 0, .slice none 0 0] 57)) ∧ Box ((((w.alloc (.cells #[.int .i64 sec, .slice a n cap] 29)).alloc (.cells #[.bool true, .slice (some ⟨sb, 0, none⟩) ns sc, .slice (some ⟨db, 0, none⟩) n dc] 42)).alloc (.cells #[.int .i64 op, .int .i64 (o : Int), .int .i64 dir] 49)).alloc (.cells #[.int .i64 0, .bool false, .slice none 0 0, .slice none 0 0] 57)) w.heap.size 29 #[.int .i64 sec, .slice a n cap] ∧ Box ((((w.alloc (.cells #[.int .i64 sec, .slice a n cap] 29)).alloc (.cells #[.bool true, .slice (some ⟨sb, 0, none⟩) ns sc, .slice (some ⟨db, 0, none⟩) n dc] 42)).alloc (.cells #[.int .i64 op, .int .i64 (o : Int), .int .i64 dir] 49)).alloc (.cells #[.int .i64 0, .bool false, .slice none 0 0, .slice none 0 0] 57)) (w.heap.size + 1 + 1) 49 #[.int .i64 op, .int .i64 (o : Int), .int .i64 dir] ∧ Box ((((w.alloc (.cells #[.int .i64 sec, .slice a n cap] 29)).alloc (.cells #[.bool true, .slice (some ⟨sb, 0, none⟩) ns sc, .slice (some ⟨db, 0, none⟩) n dc] 42)).alloc (.cells #[.int .i64 op, .int .i64 (o : Int), .int .i64 dir] 49)).alloc (.cells #[.int .i64 0, .bool false, .slice none 0 0, .slice none 0 0] 57)) (w.heap.size + 1 + 1 + 1) 57 #[.int .i64 0, .bool false, .slice none 0 0, .slice none 0 0]) := ⟨B0, L0, E0, R0⟩
  clear B0 L0 E0 R0
  refine (cntI sec a n cap K true sb db ns n sc dc S D _ hn hns hnd (HE0.out.1.mono (Nat.le_refl _) HB0.out.1 (Nat.le_refl _)) (HE0.out.2.1.mono (Nat.le_refl _) HB0.out.1 (Nat.le_refl _)) (HE0.out.2.2.mono (Nat.le_refl _) HB0.out.1 (Nat.le_refl _))).mono ?_
  rintro e w1 ⟨p, rfl, hR, hb1⟩
  have H1 : Hid (Below w.heap.size w w1 ∧ Box w1 w.heap.size 29 #[.int .i64 sec, .slice a n cap] ∧ Box w1 (w.heap.size + 1 + 1) 49 #[.int .i64 op, .int .i64 (o : Int), .int .i64 dir] ∧ Box w1 (w.heap.size + 1 + 1 + 1) 57 #[.int .i64 0, .bool false, .slice none 0 0, .slice none 0 0]) := ⟨HB0.out.1.trans (hb1.mono HB0.out.1.size), HB0.out.2.1.mono hb1 (Nat.le_refl _), HB0.out.2.2.1.mono hb1 (Nat.le_refl _), HB0.out.2.2.2.mono hb1 (Nat.le_refl _)⟩
  have hp : w.heap.size ≤ w.heap.size + 1 + 1 + 1 := by omega
  have hz0 : w.heap.size ≤ ((((w.alloc (.cells #[.int .i64 sec, .slice a n cap] 29)).alloc (.cells #[.bool true, .slice (some ⟨sb, 0, none⟩) ns sc, .slice (some ⟨db, 0, none⟩) n dc] 42)).alloc (.cells #[.int .i64 op, .int .i64 (o : Int), .int .i64 dir] 49)).alloc (.cells #[.int .i64 0, .bool false, .slice none 0 0, .slice none 0 0] 57)).heap.size := HB0.out.1.size
  have hz3 : w.heap.size + 1 + 1 + 1 < ((((w.alloc (.cells #[.int .i64 sec, .slice a n cap] 29)).alloc (.cells #[.bool true, .slice (some ⟨sb, 0, none⟩) ns sc, .slice (some ⟨db, 0, none⟩) n dc] 42)).alloc (.cells #[.int .i64 op, .int .i64 (o : Int), .int .i64 dir] 49)).alloc (.cells #[.int .i64 0, .bool false, .slice none 0 0, .slice none 0 0] 57)).heap.size := HB0.out.2.2.2.lt
  have l0 : w1.cell? ⟨w.heap.size, 0, none⟩ = some (.int .i64 sec) := H1.out.2.1.cell 0
  have l1 : w1.cell? ⟨w.heap.size, 1, none⟩ = some (.slice a n cap) := H1.out.2.1.cell 1
  have e0 : w1.cell? ⟨w.heap.size + 1 + 1, 0, none⟩ = some (.int .i64 op) := H1.out.2.2.1.cell 0
  have e1 : w1.cell? ⟨w.heap.size + 1 + 1, 1, none⟩ = some (.int .i64 (o : Int)) := H1.out.2.2.1.cell 1
  have e2 : w1.cell? ⟨w.heap.size + 1 + 1, 2, none⟩ = some (.int .i64 dir) := H1.out.2.2.1.cell 2
  have r0 : w1.cell? ⟨w.heap.size + 1 + 1 + 1, 0, none⟩ = some (.int .i64 0) := H1.out.2.2.2.cell 0
  have r1 : w1.cell? ⟨w.heap.size + 1 + 1 + 1, 1, none⟩ = some (.bool false) := H1.out.2.2.2.cell 1
  have r2 : w1.cell? ⟨w.heap.size + 1 + 1 + 1, 2, none⟩ = some (.slice none 0 0) := H1.out.2.2.2.cell 2
  have r3 : w1.cell? ⟨w.heap.size + 1 + 1 + 1, 3, none⟩ = some (.slice none 0 0) := H1.out.2.2.2.cell 3
  have g0 := H1.out.2.2.2.free 0
  have g1 := H1.out.2.2.2.free 1
  have g2 := H1.out.2.2.2.free 2
  have g3 := H1.out.2.2.2.free 3
  rcases hR with ⟨q1, rfl⟩ | ⟨q1, c, b, sa, s', da, d', rfl, hc1, hc2, hct, hst⟩
  · rw [hco] at q1
    cases q1
  · have HK : Hid (Wk ((((w.alloc (.cells #[.int .i64 sec, .slice a n cap] 29)).alloc (.cells #[.bool true, .slice (some ⟨sb, 0, none⟩) ns sc, .slice (some ⟨db, 0, none⟩) n dc] 42)).alloc (.cells #[.int .i64 op, .int .i64 (o : Int), .int .i64 dir] 49)).alloc (.cells #[.int .i64 0, .bool false, .slice none 0 0, .slice none 0 0] 57)) w1 c b sec a n cap K sa s' da d' ns S D) := ⟨hb1, hct.box, hc1, hc2, hct.rings, hst, HE0.out.1.mono (Nat.le_refl _) HB0.out.1 (Nat.le_refl _)⟩
    clear q1 hb1 hct hst hc1 hc2 hco
    go_wp2_with fail
    clear l0 l1 e0 e1 e2 r0 r1 r2 r3 g0 g1 g2 g3
    refine (evI sec a n cap K op o dir _ hn (HE0.out.1.mono (Nat.le_refl _) H1.out.1 (Nat.le_refl _))).mono ?_
    rintro e w2 ⟨rfl, hb2⟩
    rw [HVf.out]
    have H2 : Hid (Below w.heap.size w w2 ∧ Box w2 w.heap.size 29 #[.int .i64 sec, .slice a n cap] ∧ Box w2 (w.heap.size + 1 + 1) 49 #[.int .i64 op, .int .i64 (o : Int), .int .i64 dir] ∧ Box w2 (w.heap.size + 1 + 1 + 1) 57 #[.int .i64 0, .bool false, .slice none 0 0, .slice none 0 0]) := ⟨H1.out.1.trans (hb2.mono H1.out.1.size), H1.out.2.1.mono hb2 (Nat.le_refl _), H1.out.2.2.1.mono hb2 (Nat.le_refl _), H1.out.2.2.2.mono hb2 (Nat.le_refl _)⟩
    have HK2 : Hid (Wk ((((w.alloc (.cells #[.int .i64 sec, .slice a n cap] 29)).alloc (.cells #[.bool true, .slice (some ⟨sb, 0, none⟩) ns sc, .slice (some ⟨db, 0, none⟩) n dc] 42)).alloc (.cells #[.int .i64 op, .int .i64 (o : Int), .int .i64 dir] 49)).alloc (.cells #[.int .i64 0, .bool false, .slice none 0 0, .slice none 0 0] 57)) w2 c b sec a n cap K sa s' da d' ns S D) := HK.out.mono hb2 (Nat.le_refl _)
    clear hb2
    have l0 : w2.cell? ⟨w.heap.size, 0, none⟩ = some (.int .i64 sec) := H2.out.2.1.cell 0
    have l1 : w2.cell? ⟨w.heap.size, 1, none⟩ = some (.slice a n cap) := H2.out.2.1.cell 1
    have e0 : w2.cell? ⟨w.heap.size + 1 + 1, 0, none⟩ = some (.int .i64 op) := H2.out.2.2.1.cell 0
    have e1 : w2.cell? ⟨w.heap.size + 1 + 1, 1, none⟩ = some (.int .i64 (o : Int)) := H2.out.2.2.1.cell 1
    have e2 : w2.cell? ⟨w.heap.size + 1 + 1, 2, none⟩ = some (.int .i64 dir) := H2.out.2.2.1.cell 2
    have r0 : w2.cell? ⟨w.heap.size + 1 + 1 + 1, 0, none⟩ = some (.int .i64 0) := H2.out.2.2.2.cell 0
    have r1 : w2.cell? ⟨w.heap.size + 1 + 1 + 1, 1, none⟩ = some (.bool false) := H2.out.2.2.2.cell 1
    have r2 : w2.cell? ⟨w.heap.size + 1 + 1 + 1, 2, none⟩ = some (.slice none 0 0) := H2.out.2.2.2.cell 2
    have r3 : w2.cell? ⟨w.heap.size + 1 + 1 + 1, 3, none⟩ = some (.slice none 0 0) := H2.out.2.2.2.cell 3
    have g0 := H2.out.2.2.2.free 0
    have g1 := H2.out.2.2.2.free 1
    have g2 := H2.out.2.2.2.free 2
    have g3 := H2.out.2.2.2.free 3
    obtain ⟨q, hq⟩ : ∃ q, Hid (doStep K n S D op dir o = q) := ⟨_, rfl⟩
    go_wp2_with fail
    clear l0 l1 e0 e1 e2 r0 r1 r2 r3 g0 g1 g2 g3
    refine (do61 ((((w.alloc (.cells #[.int .i64 sec, .slice a n cap] 29)).alloc (.cells #[.bool true, .slice (some ⟨sb, 0, none⟩) ns sc, .slice (some ⟨db, 0, none⟩) n dc] 42)).alloc (.cells #[.int .i64 op, .int .i64 (o : Int), .int .i64 dir] 49)).alloc (.cells #[.int .i64 0, .bool false, .slice none 0 0, .slice none 0 0] 57)) c b sec a n cap K sa s' da d' ns S D op o dir w2 HEV.out HG.out HSec.out HC.out HK2.out).mono ?_
    rw [hq.out]
    rintro e w6 ⟨rfl, h6⟩
    have H6 : Hid (Wk ((((w.alloc (.cells #[.int .i64 sec, .slice a n cap] 29)).alloc (.cells #[.bool true, .slice (some ⟨sb, 0, none⟩) ns sc, .slice (some ⟨db, 0, none⟩) n dc] 42)).alloc (.cells #[.int .i64 op, .int .i64 (o : Int), .int .i64 dir] 49)).alloc (.cells #[.int .i64 0, .bool false, .slice none 0 0, .slice none 0 0] 57)) w6 c b sec a n cap K sa s' da d' ns (tellN K n q.2.2 q.2.1 ns) q.2.2) := h6
    have R6 : Box w6 (w.heap.size + 1 + 1 + 1) 57 #[.int .i64 0, .bool false, .slice none 0 0, .slice none 0 0] := HB0.out.2.2.2.mono h6.bel (Nat.le_refl _)
    clear h6
    have r0 : w6.cell? ⟨w.heap.size + 1 + 1 + 1, 0, none⟩ = some (.int .i64 0) := R6.cell 0
    have r1 : w6.cell? ⟨w.heap.size + 1 + 1 + 1, 1, none⟩ = some (.bool false) := R6.cell 1
    have r2 : w6.cell? ⟨w.heap.size + 1 + 1 + 1, 2, none⟩ = some (.slice none 0 0) := R6.cell 2
    have r3 : w6.cell? ⟨w.heap.size + 1 + 1 + 1, 3, none⟩ = some (.slice none 0 0) := R6.cell 3
    have g0 := R6.free 0
    have g1 := R6.free 1
    have g2 := R6.free 2
    have g3 := R6.free 3
    have k3 : w6.cell? ⟨c, 3, none⟩ = some (.bool true) := H6.out.box.cell 3
    have k4 : w6.cell? ⟨c, 4, none⟩ = some (.slice sa ns s') := H6.out.box.cell 4
    have k5 : w6.cell? ⟨c, 5, none⟩ = some (.slice da n d') := H6.out.box.cell 5
    have HR6 : Hid (Box w6 (w.heap.size + 1 + 1 + 1) 57 #[.int .i64 0, .bool false, .slice none 0 0, .slice none 0 0]) := R6
    clear R6
    go_wp2_with fail
    refine bodyPost_ret (res57 Try.results31 rfl ((((HR6.out.set 0 (.int .i64 q.1)).set 1 (.bool true)).set 2 (.slice sa ns s')).set 3 (.slice da n d'))) rfl ⟨sa, s', da, d', ?_, ?_, ?_⟩
    · rw [hq.out]
    · rw [hq.out]
      exact ⟨H6.out.st.s.keep hz0 (fun g hg => do_keep hz3 ((H6.out.st.s.lt hg).1)), H6.out.st.d.keep hz0 (fun g hg => do_keep hz3 ((H6.out.st.d.lt hg).1))⟩
    · exact ((((HB0.out.1.trans (H6.out.bel.mono HB0.out.1.size)).setCell hp _).setCell hp _).setCell hp _).setCell hp _

end Go.Proofs.Ytmcaohablpaknaa
