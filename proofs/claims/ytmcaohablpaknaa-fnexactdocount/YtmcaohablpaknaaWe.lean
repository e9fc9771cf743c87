import Derived.Test.YtmcaohablpaknaaWt
import Derived.Test.YtmcaohablpaknaaEv
import Derived.Deep.RegionHeld3
namespace Go.Proofs.Ytmcaohablpaknaa
open Go.RowKit Go.ChangeShapes Go.WideShapes

theorem alloc_set (w : World) (o o' : Obj) : { (w.alloc o) with heap := (w.alloc o).heap.setIfInBounds w.heap.size o' } = w.alloc o' := by
  have e : (w.alloc o).heap = w.heap.push o := rfl
  have e' : w.alloc o' = { w with heap := w.heap.push o' } := rfl
  rw [e', e]
  have h1 : (w.heap.push o).setIfInBounds w.heap.size o' = w.heap.push o' := by
    apply Array.ext_getElem?
    intro i
    rw [Array.getElem?_setIfInBounds, Array.getElem?_push, Array.getElem?_push]
    by_cases hi : w.heap.size = i
    · subst hi
      simp
    · rw [if_neg hi, if_neg (fun q => hi q.symm), if_neg (fun q => hi q.symm)]
  show ({ (w.alloc o) with heap := (w.heap.push o).setIfInBounds w.heap.size o' } : World) = _
  rw [h1]
  rfl
theorem run_mapPut (w : World) (es : Array MapEntry) (clk : Nat) (x : Int) (v : Value) (hf : Instr.findNow (.int .i64) (.int .i64 x) es.toList 0 = some none) :
    (Instr.mapUpdate 103 (.map (some w.heap.size)) (.int .i64 x) v).run Try.prog (w.alloc (.map es clk)) = .ok () (w.alloc (.map (es.push ⟨.int .i64 x, v, clk⟩) (clk + 1))) := by
  have hb : (w.alloc (.map es clk)).heap[w.heap.size]? = some (.map es clk) := heap_alloc_new w _
  have hc : (Instr.checkKey false 10000 3 (.int .i64 x)).run Try.prog (w.alloc (.map es clk)) = .ok () (w.alloc (.map es clk)) := MapKept.run_checkKey (k := .int .i64 x) Try.underlying3 (by simp [MapKept.IsKey]) false 9999
  have hs := MapKept.run_setObj_map (P := Try.prog) (.map (es.push ⟨.int .i64 x, v, clk⟩) (clk + 1)) hb
  rw [alloc_set] at hs
  have hu := run_underlying (w := w.alloc (.map es clk)) Try.underlying103
  have hk := MapKept.run_findKey (w := w.alloc (.map es clk)) Try.underlying3 hf
  unfold Instr.mapUpdate
  simp only [Sem.run_bind, hu, Result.andThen, MapKept.run_getObj_map hb, hc, hk, hs]
theorem ins1 (w : World) (v1 : Value) : (Instr.mapUpdate 103 (.map (some w.heap.size)) (.int .i64 1) v1).run Try.prog (w.alloc (.map #[] 0)) = .ok () (w.alloc (.map #[⟨.int .i64 1, v1, 0⟩] 1)) := by
  have := run_mapPut w #[] 0 1 v1 (by rfl)
  exact this
theorem ins2 (w : World) (v1 v2 : Value) : (Instr.mapUpdate 103 (.map (some w.heap.size)) (.int .i64 2) v2).run Try.prog (w.alloc (.map #[⟨.int .i64 1, v1, 0⟩] 1)) = .ok () (w.alloc (.map #[⟨.int .i64 1, v1, 0⟩, ⟨.int .i64 2, v2, 1⟩] 2)) := by
  have := run_mapPut w #[⟨.int .i64 1, v1, 0⟩] 1 2 v2 (by rfl)
  exact this
theorem ins3 (w : World) (v1 v2 v3 : Value) : (Instr.mapUpdate 103 (.map (some w.heap.size)) (.int .i64 3) v3).run Try.prog (w.alloc (.map #[⟨.int .i64 1, v1, 0⟩, ⟨.int .i64 2, v2, 1⟩] 2)) = .ok () (w.alloc (.map #[⟨.int .i64 1, v1, 0⟩, ⟨.int .i64 2, v2, 1⟩, ⟨.int .i64 3, v3, 2⟩] 3)) := by
  have := run_mapPut w #[⟨.int .i64 1, v1, 0⟩, ⟨.int .i64 2, v2, 1⟩] 2 3 v3 (by rfl)
  exact this
theorem ins4 (w : World) (v1 v2 v3 v4 : Value) : (Instr.mapUpdate 103 (.map (some w.heap.size)) (.int .i64 4) v4).run Try.prog (w.alloc (.map #[⟨.int .i64 1, v1, 0⟩, ⟨.int .i64 2, v2, 1⟩, ⟨.int .i64 3, v3, 2⟩] 3)) = .ok () (w.alloc (.map #[⟨.int .i64 1, v1, 0⟩, ⟨.int .i64 2, v2, 1⟩, ⟨.int .i64 3, v3, 2⟩, ⟨.int .i64 4, v4, 3⟩] 4)) := by
  have := run_mapPut w #[⟨.int .i64 1, v1, 0⟩, ⟨.int .i64 2, v2, 1⟩, ⟨.int .i64 3, v3, 2⟩] 3 4 v4 (by rfl)
  exact this
theorem ins5 (w : World) (v1 v2 v3 v4 v5 : Value) : (Instr.mapUpdate 103 (.map (some w.heap.size)) (.int .i64 5) v5).run Try.prog (w.alloc (.map #[⟨.int .i64 1, v1, 0⟩, ⟨.int .i64 2, v2, 1⟩, ⟨.int .i64 3, v3, 2⟩, ⟨.int .i64 4, v4, 3⟩] 4)) = .ok () (w.alloc (.map #[⟨.int .i64 1, v1, 0⟩, ⟨.int .i64 2, v2, 1⟩, ⟨.int .i64 3, v3, 2⟩, ⟨.int .i64 4, v4, 3⟩, ⟨.int .i64 5, v5, 4⟩] 5)) := by
  have := run_mapPut w #[⟨.int .i64 1, v1, 0⟩, ⟨.int .i64 2, v2, 1⟩, ⟨.int .i64 3, v3, 2⟩, ⟨.int .i64 4, v4, 3⟩] 4 5 v5 (by rfl)
  exact this

def evM (c : Nat) : Array MapEntry := #[⟨.int .i64 1, .func (.func 71) #[.pointer (some ⟨c, 0, none⟩)] #[], 0⟩, ⟨.int .i64 2, .func (.func 72) #[.pointer (some ⟨c, 0, none⟩)] #[], 1⟩, ⟨.int .i64 3, .func (.func 73) #[.pointer (some ⟨c, 0, none⟩)] #[], 2⟩, ⟨.int .i64 4, .func (.func 74) #[.pointer (some ⟨c, 0, none⟩)] #[], 3⟩, ⟨.int .i64 5, .func (.func 75) #[.pointer (some ⟨c, 0, none⟩)] #[], 4⟩]
set_option maxRecDepth 10000 in
set_option maxHeartbeats 8000000 in
theorem eventsI (c : Nat) (w : World) :
    Calls Try.prog 68 #[.pointer (some ⟨c, 0, none⟩)] w fun e w' => e = .returned (.map (some w.heap.size)) ∧ w' = w.alloc (.map (evM c) 5) := by
  have hmm := @run_makeMap Try.prog
  have q1 := ins1 w
  have q2 := ins2 w
  have q3 := ins3 w
  have q4 := ins4 w
  have q5 := ins5 w
  go_enter Try.func68, Try.ntmps68
  go_wp2_with fail
  go_ret
  exact ⟨rfl, rfl⟩
theorem run_mapGet (w : World) (r : Nat) (es : Array MapEntry) (clk : Nat) (x : Int) (i : Nat) (v : Value) (hb : w.heap[r]? = some (.map es clk)) (hf : Instr.findNow (.int .i64) (.int .i64 x) es.toList 0 = some (some (i, v))) :
    (Instr.lookup 103 (.map (some r)) (.int .i64 x) false).run Try.prog w = .ok v w := by
  have hc : ∀ em, (Instr.checkKey em 10000 3 (.int .i64 x)).run Try.prog w = .ok () w := fun em => MapKept.run_checkKey (k := .int .i64 x) Try.underlying3 (by simp [MapKept.IsKey]) em 9999
  have hu := run_underlying (w := w) Try.underlying103
  have hk := MapKept.run_findKey (w := w) Try.underlying3 hf
  simp [Instr.lookup, hu, Result.andThen, MapKept.run_getObj_map hb, hc, hk]
theorem get1 (c : Nat) (w : World) : (Instr.lookup 103 (.map (some w.heap.size)) (.int .i64 1) false).run Try.prog (w.alloc (.map (evM c) 5)) = .ok (.func (.func 71) #[.pointer (some ⟨c, 0, none⟩)] #[]) (w.alloc (.map (evM c) 5)) := run_mapGet _ _ (evM c) 5 1 0 _ (heap_alloc_new w _) rfl
theorem get2 (c : Nat) (w : World) : (Instr.lookup 103 (.map (some w.heap.size)) (.int .i64 2) false).run Try.prog (w.alloc (.map (evM c) 5)) = .ok (.func (.func 72) #[.pointer (some ⟨c, 0, none⟩)] #[]) (w.alloc (.map (evM c) 5)) := run_mapGet _ _ (evM c) 5 2 1 _ (heap_alloc_new w _) rfl
theorem get3 (c : Nat) (w : World) : (Instr.lookup 103 (.map (some w.heap.size)) (.int .i64 3) false).run Try.prog (w.alloc (.map (evM c) 5)) = .ok (.func (.func 73) #[.pointer (some ⟨c, 0, none⟩)] #[]) (w.alloc (.map (evM c) 5)) := run_mapGet _ _ (evM c) 5 3 2 _ (heap_alloc_new w _) rfl
theorem get4 (c : Nat) (w : World) : (Instr.lookup 103 (.map (some w.heap.size)) (.int .i64 4) false).run Try.prog (w.alloc (.map (evM c) 5)) = .ok (.func (.func 74) #[.pointer (some ⟨c, 0, none⟩)] #[]) (w.alloc (.map (evM c) 5)) := run_mapGet _ _ (evM c) 5 4 3 _ (heap_alloc_new w _) rfl
theorem get5 (c : Nat) (w : World) : (Instr.lookup 103 (.map (some w.heap.size)) (.int .i64 5) false).run Try.prog (w.alloc (.map (evM c) 5)) = .ok (.func (.func 75) #[.pointer (some ⟨c, 0, none⟩)] #[]) (w.alloc (.map (evM c) 5)) := run_mapGet _ _ (evM c) 5 5 4 _ (heap_alloc_new w _) rfl

/-- one event -/
def doStep (K : Nat → Nat → Int) (n : Nat) (S : Nat → Sec) (D : Nat → Bool) (op dir : Int) (o : Nat) : Int × (Nat → Sec) × (Nat → Bool) :=
  if op = 1 then (if D o then (2, S, D) else (0, addF (addF S (frF K o dir) (-1)) (toF K o dir) 1, D))
  else if op = 2 then (if D o then (2, S, D) else (0, addF S (toF K o dir) 1, D))
  else if op = 3 then (0, loseF (loseF S (K o 0)) (K o 1), updD D o true)
  else if op = 4 then (0, S, updD D o false)
  else if deadB K n D o then (3, S, D) else if (S o).last = 1 then (4, S, D) else (0, updS S o ⟨0, 0, false, true, 0⟩, D)
/-- the state and the event are right -/
noncomputable def dV (sec : Int) (n : Nat) (K : Nat → Nat → Int) (ok : Bool) (ns nd : Nat) (S : Nat → Sec) (D : Nat → Bool) (op of dir : Int) : Bool := coB sec n K ok ns nd S D && evB sec n op of dir
open Classical in
theorem coB_iff {sec : Int} {n : Nat} {K : Nat → Nat → Int} {ok : Bool} {ns nd : Nat} {S : Nat → Sec} {D : Nat → Bool} (h : coB sec n K ok ns nd S D = true) : CoOk sec n K ok ns nd S D := by
  unfold coB at h
  exact of_decide_eq_true h
theorem secOk_range {d : Bool} {x : Sec} (h : secOk d x = true) : -1000000 ≤ x.count ∧ x.count ≤ 1000000 := by
  simp only [secOk, Bool.and_eq_true, decide_eq_true_eq] at h
  exact h.1.1.1

end Go.Proofs.Ytmcaohablpaknaa
