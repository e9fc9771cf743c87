import Derived.Test.YtmcaohablpaknaaCc
namespace Go.Proofs.Ytmcaohablpaknaa
open Go.RowKit Go.ChangeShapes Go.WideShapes

theorem bodyPost_void {P : Program} {fn : Func} {R : Ending → World → Prop} {a : Act} {w : World} {x : Exit} (hx : x = .normal ∨ x = .ret) (hres : fn.results = #[]) (hd : a.defers = []) (hR : R (.returned (.tuple #[])) w) : bodyPost P fn R x a w := by
  rcases hx with rfl | rfl <;> exact ⟨hd, _, results_none hres _ _ _, hR⟩
/-- a section in another's place -/
def updS (S : Nat → Sec) (i : Nat) (x : Sec) : Nat → Sec := fun k => if k = i then x else S k
def updD (D : Nat → Bool) (i : Nat) (x : Bool) : Nat → Bool := fun k => if k = i then x else D k
theorem updS_same (S : Nat → Sec) (i : Nat) (x : Sec) : updS S i x i = x := by simp [updS]
theorem updS_two (S : Nat → Sec) (i : Nat) (x y : Sec) : updS (updS S i x) i y = updS S i y := by
  funext k
  simp only [updS]
  split <;> rfl
theorem updS_id (S : Nat → Sec) (i : Nat) : updS S i (S i) = S := by
  funext k
  simp only [updS]
  split
  · rename_i h; rw [h]
  · rfl
/-- a counting that may be written into -/
structure Wk (w0 w : World) (c b : Nat) (sec : Int) (a : Option Addr) (n cap : Nat) (K : Nat → Nat → Int) (sa : Option Addr) (sc : Nat) (da : Option Addr) (dc ns : Nat) (S : Nat → Sec) (D : Nat → Bool) : Prop where
  bel : Below w0.heap.size w0 w
  box : Box w c 93 #[.int .i64 sec, .slice a n cap, .map (some b), .bool true, .slice sa ns sc, .slice da n dc]
  cge : w0.heap.size ≤ c
  bge : w0.heap.size ≤ b
  rings : Rings w b K n
  st : StOwn w0.heap.size w sa sc da dc ns n S D
  cnt : VsAt 2 0 w0 a n (intF K)
theorem Wk.ct {w0 w : World} {c b : Nat} {sec : Int} {a : Option Addr} {n cap : Nat} {K : Nat → Nat → Int} {sa : Option Addr} {sc : Nat} {da : Option Addr} {dc ns : Nat} {S : Nat → Sec} {D : Nat → Bool} (h : Wk w0 w c b sec a n cap K sa sc da dc ns S D) : CtIn w c b sec a n cap K true sa sc da dc ns S D :=
  ⟨h.box, h.rings, h.cnt.mono (Nat.le_refl _) h.bel (Nat.le_refl _), h.st.s.vs.le (Nat.zero_le _), h.st.d.vs.le (Nat.zero_le _)⟩
theorem Wk.mono {w0 w : World} {c b : Nat} {sec : Int} {a : Option Addr} {n cap : Nat} {K : Nat → Nat → Int} {sa : Option Addr} {sc : Nat} {da : Option Addr} {dc ns : Nat} {S : Nat → Sec} {D : Nat → Bool} {w' : World} {M : Nat} (h : Wk w0 w c b sec a n cap K sa sc da dc ns S D) (hb : Below M w w') (hM : w.heap.size ≤ M) : Wk w0 w' c b sec a n cap K sa sc da dc ns S D :=
  ⟨h.bel.trans (hb.mono (Nat.le_trans h.bel.size hM)), h.box.mono hb hM, h.cge, h.bge, h.rings.mono hb hM, h.st.mono (Nat.le_refl _) hb hM, h.cnt⟩
theorem VOwn.store' {B : Nat} {e : TypeId} {c : Nat} {w : World} {g cap n : Nat} {F G : Nat → Nat → Value} (h : VOwn B e c w (.slice (some ⟨g, 0, none⟩) n cap) n F) {i j : Nat} (hi : i < n) (hj : j < c) (u : Value) (hG : ∀ i', i' < n → ∀ j', j' < c → upd F i j u i' j' = G i' j') :
    VOwn B e c (w.setCell ⟨g, i * c + j, none⟩ u) (.slice (some ⟨g, 0, none⟩) n cap) n G := (h.store hi hj u).congr hG
theorem VOwn.offset {B : Nat} {e : TypeId} {c : Nat} {w : World} {g cap n : Nat} {F : Nat → Nat → Value} (h : VOwn B e c w (.slice (some ⟨g, 0, none⟩) n cap) n F) : ∃ cur, Box w g e cur := by
  rcases h with ⟨h1, _⟩ | ⟨g', cp, cur, h1, h2, h3, _⟩
  · cases h1
  · simp only [Value.slice.injEq, Option.some.injEq, Addr.mk.injEq] at h1
    obtain ⟨⟨rfl, _⟩, _⟩ := h1
    exact ⟨cur, h3⟩
theorem Box.ne {w : World} {b q : Nat} {T T' : TypeId} {vs vs' : Array Value} (h : Box w b T vs) (h' : Box w q T' vs') (hT : T ≠ T') : b ≠ q := by
  intro e
  subst e
  have h1 : w.heap[b]? = some (.cells vs T (0, 0)) := h
  have h2 : w.heap[b]? = some (.cells vs' T' (0, 0)) := h'
  rw [h1] at h2
  simp only [Option.some.injEq, Obj.cells.injEq] at h2
  exact hT h2.2.1
theorem Rings.setc {w : World} {b : Nat} {K : Nat → Nat → Int} {k g : Nat} {T : TypeId} {cur : Array Value} (h : Rings w b K k) (hg : Box w g T cur) (hT : T ≠ 3) (j : Nat) (u : Value) : Rings (w.setCell ⟨g, j, none⟩ u) b K k := by
  have hne : b ≠ g := fun e => by
    subst e
    obtain ⟨D, ⟨es, clock, hb, _⟩, _⟩ := h
    have hg' : w.heap[b]? = some (.cells cur T (0, 0)) := hg
    rw [hg'] at hb
    simp at hb
  refine h.keep (Below.heap_setCell w _ u b hne) fun q c' hq => Below.heap_setCell w _ u q fun e => ?_
  have e' : q = g := e
  subst e'
  exact hg.ne hq hT rfl
theorem Wk.put {w0 w : World} {c b : Nat} {sec : Int} {a : Option Addr} {n cap : Nat} {K : Nat → Nat → Int} {sc : Nat} {da : Option Addr} {dc ns : Nat} {S : Nat → Sec} {D : Nat → Bool} {g : Nat} (h : Wk w0 w c b sec a n cap K (some ⟨g, 0, none⟩) sc da dc ns S D) {i j : Nat} (hi : i < ns) (hj : j < 5) {u : Value} (x : Sec) (hx : ∀ j', j' < 5 → secV x j' = if j' = j then u else secV (S i) j') :
    Wk w0 (w.setCell ⟨g, i * 5 + j, none⟩ u) c b sec a n cap K (some ⟨g, 0, none⟩) sc da dc ns (updS S i x) D := by
  obtain ⟨cur, hg⟩ := h.st.s.offset
  have hge := (h.st.s.lt rfl).1
  refine ⟨h.bel.setCell (p := ⟨g, i * 5 + j, none⟩) hge u, h.box.other (p := ⟨g, i * 5 + j, none⟩) (h.box.ne hg (by decide)) u, h.cge, h.bge, h.rings.setc hg (by decide) _ u, ⟨h.st.s.store' hi hj u fun i' hi' j' hj' => ?_, h.st.d.set hg (by decide) _ u⟩, h.cnt⟩
  simp only [upd, secF, updS]
  by_cases e1 : i' = i
  · subst e1
    rw [if_pos rfl, hx j' hj']
    by_cases e2 : j' = j
    · rw [if_pos ⟨rfl, e2⟩, if_pos e2]
    · rw [if_neg (fun q => e2 q.2), if_neg e2]
  · rw [if_neg (fun q => e1 q.1), if_neg e1]
theorem Wk.putD {w0 w : World} {c b : Nat} {sec : Int} {a : Option Addr} {n cap : Nat} {K : Nat → Nat → Int} {sa : Option Addr} {sc : Nat} {dc ns : Nat} {S : Nat → Sec} {D : Nat → Bool} {g : Nat} (h : Wk w0 w c b sec a n cap K sa sc (some ⟨g, 0, none⟩) dc ns S D) {i : Nat} (hi : i < n) (v : Bool) :
    Wk w0 (w.setCell ⟨g, i, none⟩ (.bool v)) c b sec a n cap K sa sc (some ⟨g, 0, none⟩) dc ns S (updD D i v) := by
  obtain ⟨cur, hg⟩ := h.st.d.offset
  have hge := (h.st.d.lt rfl).1
  refine ⟨h.bel.setCell (p := ⟨g, i, none⟩) hge (.bool v), h.box.other (p := ⟨g, i, none⟩) (h.box.ne hg (by decide)) (.bool v), h.cge, h.bge, h.rings.setc hg (by decide) _ _, ⟨h.st.s.set hg (by decide) _ _, ?_⟩, h.cnt⟩
  have := h.st.d.store' (i := i) (j := 0) (G := boolF (updD D i v)) hi (by omega) (.bool v) fun i' hi' j' hj' => by
    obtain rfl : j' = 0 := by omega
    simp only [upd, boolF, updD]
    by_cases e1 : i' = i
    · simp [e1]
    · simp [e1]
  rwa [Nat.mul_one, Nat.add_zero] at this
/-- one axle counted -/
def addSec (x : Sec) (y : Int) : Sec :=
  let k := if -1000000 ≤ x.count + y ∧ x.count + y ≤ 1000000 then x.count + y else x.count
  ⟨x.told, k, x.lost || decide (k < 0), x.sweep && !(decide (k = 0) && decide (y = -1)), y⟩
def addF (S : Nat → Sec) (s y : Int) : Nat → Sec := fun i => if (i : Int) = s then addSec (S i) y else S i
def loseF (S : Nat → Sec) (s : Int) : Nat → Sec := fun i => if (i : Int) = s then ⟨(S i).told, (S i).count, true, (S i).sweep, (S i).last⟩ else S i
theorem addF_out (S : Nat → Sec) {s : Int} (y : Int) (h : s < 0) : addF S s y = S := by
  funext i
  simp only [addF]
  rw [if_neg (by omega)]
theorem loseF_out (S : Nat → Sec) {s : Int} (h : s < 0) : loseF S s = S := by
  funext i
  simp only [loseF]
  rw [if_neg (by omega)]
theorem addF_in (S : Nat → Sec) (i : Nat) (y : Int) : addF S i y = updS S i (addSec (S i) y) := by
  funext k
  simp only [addF, updS]
  by_cases e : k = i
  · subst e; simp
  · rw [if_neg (by omega), if_neg e]
theorem loseF_in (S : Nat → Sec) (i : Nat) : loseF S i = updS S i ⟨(S i).told, (S i).count, true, (S i).sweep, (S i).last⟩ := by
  funext k
  simp only [loseF, updS]
  by_cases e : k = i
  · subst e; simp
  · rw [if_neg (by omega), if_neg e]
theorem Wk.secs {w0 w : World} {c b : Nat} {sec : Int} {a : Option Addr} {n cap : Nat} {K : Nat → Nat → Int} {sc : Nat} {da : Option Addr} {dc ns : Nat} {S : Nat → Sec} {D : Nat → Bool} {g : Nat} (h : Wk w0 w c b sec a n cap K (some ⟨g, 0, none⟩) sc da dc ns S D) {i : Nat} (hi : i < ns) : w.cell? ⟨g, i * 5, none⟩ = some (.int .i64 (S i).told) ∧ w.cell? ⟨g, i * 5 + 1, none⟩ = some (.int .i64 (S i).count) ∧ w.cell? ⟨g, i * 5 + 2, none⟩ = some (.bool (S i).lost) ∧ w.cell? ⟨g, i * 5 + 3, none⟩ = some (.bool (S i).sweep) ∧ w.cell? ⟨g, i * 5 + 4, none⟩ = some (.int .i64 (S i).last) :=
  ⟨h.st.s.cell hi (j := 0) (by omega), h.st.s.cell hi (j := 1) (by omega), h.st.s.cell hi (j := 2) (by omega), h.st.s.cell hi (j := 3) (by omega), h.st.s.cell hi (j := 4) (by omega)⟩

set_option maxRecDepth 10000 in
set_option maxHeartbeats 4000000 in
theorem loseI (w0 : World) (c b : Nat) (sec : Int) (a : Option Addr) (n cap : Nat) (K : Nat → Nat → Int) (sa : Option Addr) (sc : Nat) (da : Option Addr) (dc ns : Nat) (S : Nat → Sec) (D : Nat → Bool) (s : Int) (w : World) (hs1 : -1 ≤ s) (hs2 : s < ns) (h60 : ns ≤ 60) (h : Wk w0 w c b sec a n cap K sa sc da dc ns S D) :
    Calls Try.prog 79 #[.pointer (some ⟨c, 0, none⟩), .int .i64 s] w fun e w' => e = .returned (.tuple #[]) ∧ Wk w0 w' c b sec a n cap K sa sc da dc ns (loseF S s) D := by
  by_cases hs : s < 0
  · obtain rfl : s = -1 := by omega
    have HW : Hid (Wk w0 w c b sec a n cap K sa sc da dc ns (loseF S (-1)) D) := by
      show Wk _ _ _ _ _ _ _ _ _ _ _ _ _ _ _ _
      rw [loseF_out S hs]
      exact h
    clear h hs
    go_enter Try.func79, Try.ntmps79
    go_wp2_with fail
    (try simp only [Exit.inBlock, Exit.then])
    exact bodyPost_void (by first | exact .inl rfl | exact .inr rfl) (by kernel_rfl) rfl ⟨rfl, HW.out⟩
  · obtain ⟨i, rfl⟩ : ∃ i : Nat, s = i := ⟨s.toNat, by omega⟩
    have hi : i < ns := by omega
    obtain ⟨g, rfl, _, _⟩ := h.st.s.addr (by omega)
    have x4 : w.cell? ⟨c, 4, none⟩ = some (.slice (some ⟨g, 0, none⟩) ns sc) := h.box.cell 4
    obtain ⟨c0, c1, c2, c3, c4⟩ := h.secs hi
    have f2 := h.st.s.free (i * 5 + 2)
    have HW : Hid (Wk w0 (w.setCell ⟨g, i * 5 + 2, none⟩ (.bool true)) c b sec a n cap K (some ⟨g, 0, none⟩) sc da dc ns (loseF S i) D) := by
      show Wk _ _ _ _ _ _ _ _ _ _ _ _ _ _ _ _
      rw [loseF_in]
      exact h.put hi (by omega) _ fun j' hj' => by
        rcases (show j' = 0 ∨ j' = 1 ∨ j' = 2 ∨ j' = 3 ∨ j' = 4 by omega) with rfl | rfl | rfl | rfl | rfl <;> rfl
    have hi1 : (i : Int) < (ns : Int) := by omega
    have hi0 : (0 : Int) ≤ (i : Int) := by omega
    have hne : ((i : Int) != -1) = true := by simp
    clear h
    go_enter Try.func79, Try.ntmps79
    go_wp2_with fail
    (try simp only [Exit.inBlock, Exit.then])
    exact bodyPost_void (by first | exact .inl rfl | exact .inr rfl) (by kernel_rfl) rfl ⟨rfl, HW.out⟩

end Go.Proofs.Ytmcaohablpaknaa
