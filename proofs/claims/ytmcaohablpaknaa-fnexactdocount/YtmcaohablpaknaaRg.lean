import Derived.Test.YtmcaohablpaknaaLa
import Derived.Maps.GroupsBeside
import Derived.Maps.Views
namespace Go.Proofs.Ytmcaohablpaknaa
open Go.RowKit Go.ChangeShapes Go.WideShapes

/-- the counters around a section, of the first k -/
def arN (K : Nat → Nat → Int) (s : Int) : Nat → List Int
  | 0 => []
  | k + 1 => if K k 0 = s ∨ K k 1 = s then arN K s k ++ [(k : Int)] else arN K s k
theorem arN_len (K : Nat → Nat → Int) (s : Int) (k : Nat) : (arN K s k).length ≤ k := by
  induction k with
  | zero => simp [arN]
  | succ k ih =>
    simp only [arN]
    split
    · simp only [List.length_append, List.length_cons, List.length_nil]; omega
    · omega
theorem arN_mem {K : Nat → Nat → Int} {s : Int} {k : Nat} {z : Int} (h : z ∈ arN K s k) : ∃ i : Nat, z = i ∧ i < k ∧ (K i 0 = s ∨ K i 1 = s) := by
  induction k with
  | zero => simp [arN] at h
  | succ k ih =>
    simp only [arN] at h
    split at h
    · rename_i hk
      rcases List.mem_append.1 h with h | h
      · obtain ⟨i, h1, h2, h3⟩ := ih h
        exact ⟨i, h1, by omega, h3⟩
      · simp only [List.mem_singleton] at h
        exact ⟨k, h, by omega, hk⟩
    · obtain ⟨i, h1, h2, h3⟩ := ih h
      exact ⟨i, h1, by omega, h3⟩
theorem arN_in {K : Nat → Nat → Int} {s : Int} {k i : Nat} (hi : i < k) (h : K i 0 = s ∨ K i 1 = s) : (i : Int) ∈ arN K s k := by
  induction k with
  | zero => omega
  | succ k ih =>
    simp only [arN]
    by_cases e : i = k
    · subst e
      rw [if_pos h]
      simp
    · have := ih (by omega)
      split
      · exact List.mem_append_left _ this
      · exact this
/-- a list of numbers, as a row -/
def lsI (zs : List Int) (i _j : Nat) : Int := zs.getD i 0
theorem vcells_lsI (zs : List Int) : vcells 1 zs.length (intF (lsI zs)) = zs.map (Value.int .i64) := by
  refine List.ext_getElem? fun k => ?_
  by_cases hk : k < zs.length
  · have := vcells_at (c := 1) (n := zs.length) (F := intF (lsI zs)) (i := k) (j := 0) hk (by omega)
    rw [Nat.mul_one, Nat.add_zero] at this
    rw [this, List.getElem?_map, List.getElem?_eq_getElem hk]
    simp [lsI, List.getD_eq_getElem?_getD, List.getElem?_eq_getElem hk]
  · rw [List.getElem?_eq_none (by rw [vcells_len]; omega), List.getElem?_eq_none (by simp; omega)]
theorem VOwn.of_ints {w : World} {base : Nat} {v : Value} {zs : List Int} (h : w.ownsInts base 3 .i64 v zs) : VOwn base 3 1 w v zs.length (intF (lsI zs)) := by
  apply VOwn.of_row
  rw [vcells_lsI]
  exact h.1

theorem klaw : Maps.Keyed Try.prog 3 := Maps.int_keyed Try.underlying3
theorem zero33 (w : World) : (zeroValue 33).run Try.prog w = .ok (.slice none 0 0) w := by kernel_rfl
theorem key3 {x : Int} (h : -9223372036854775808 ≤ x ∧ x ≤ 9223372036854775807) : keyOf Try.prog 3 (.int .i64 x) = some (.int .i64 x) := Maps.keyOf_int_mk Try.underlying3 (WalkArith.wf_i64 h)

theorem keyOf_int {P : Program} {k : TypeId} {q : IntKind} (hk : P.underlying k = some (.int q)) (v : Value) : keyOf P k v = mapKey P k v := by simp [keyOf, hk]
/-- the look-up's value, in whatever world the map lies -/
theorem gLook {w : World} {b base n : Nat} {D : DataW Unit} (h : w.ownsGroups Try.prog 3 base 3 .i64 b n D) (hn : n < maxLen) {x : Int} (hx : keyOf Try.prog 3 (.int .i64 x) = some (.int .i64 x)) :
    ∃ v zs, (∀ y : World, y.heap[b]? = w.heap[b]? → (Instr.lookup 72 (.map (some b)) (.int .i64 x) false).run Try.prog y = .ok v y) ∧ D.atKey (.int .i64 x) .nil = rowDatum .i64 v zs ∧ w.ownsInts base 3 .i64 v zs ∧ zs.length ≤ n ∧ w.groupBack Try.prog 72 3 base 3 .i64 b n D (.int .i64 x) (.int .i64 x) v := by
  obtain ⟨v, zs, hrun, h1, h2, h3, h4⟩ := h.at klaw Try.underlying72 (zero33 w) hn hx
  refine ⟨v, zs, fun y hy => ?_, h1, h2, h3, h4⟩
  obtain ⟨es, clock, hb, F, _⟩ := h
  have isK : ∀ {u : Value} {l : Lit}, keyOf Try.prog 3 u = some l → MapKept.IsKey (.int .i64) u := fun {u l} hu => by
    have hu' : mapKey Try.prog 3 u = some l := by rw [← keyOf_int Try.underlying3]; exact hu
    obtain ⟨d', hd', h1, _⟩ := mapKey_isKey hu'
    rw [Try.underlying3] at hd'
    cases hd'
    exact h1
  have hks : ∀ e ∈ es.toList, MapKept.IsKey (.int .i64) e.key := fun e he => by
    obtain ⟨q, hq⟩ := F.reads e he
    exact isK (WideElems.rd_key hq)
  obtain ⟨a, ha⟩ : ∃ a, Instr.findNow (.int .i64) (.int .i64 x) es.toList 0 = some a := by
    rcases MapKept.findNow_spec (isK hx) es.toList 0 hks with ⟨q1, _⟩ | ⟨j, e, q1, _⟩
    · exact ⟨_, q1⟩
    · exact ⟨_, q1⟩
  have hR : ∀ z : World, z.heap[b]? = some (.map es clock) → (Instr.lookup 72 (.map (some b)) (.int .i64 x) false).run Try.prog z = .ok (match a with | some (_, u) => u | none => .slice none 0 0) z := by
    intro z hz
    cases a
    · have hz33 := zero33 z
      simp [Instr.lookup, run_underlying Try.underlying72, MapKept.run_getObj_map hz, klaw.check z _ hx, MapKept.run_findKey Try.underlying3 ha, Result.andThen, hz33]
    · simp [Instr.lookup, run_underlying Try.underlying72, MapKept.run_getObj_map hz, klaw.check z _ hx, MapKept.run_findKey Try.underlying3 ha, Result.andThen]
  have e1 := hR w hb
  rw [hrun] at e1
  simp only [Result.ok.injEq, and_true] at e1
  rw [hR y (hy.trans hb), ← e1]

def items (d : DataW Unit) : List (DataW Unit) := match d with | .slice es _ => es | _ => []
theorem items_row {w : World} {base : Nat} {v : Value} {zs : List Int} (h : w.ownsInts base 3 .i64 v zs) : items (rowDatum .i64 v zs) = lits .i64 zs := by
  rcases h.datum (H := Unit) with ⟨h1, rfl⟩ | h1
  · rw [h1]; rfl
  · rw [h1]; rfl
theorem lits_inj {zs ys : List Int} (h : (lits .i64 zs : List (DataW Unit)) = lits .i64 ys) : zs = ys := (List.map_inj_right (fun a b hab => by simpa using hab)).1 h
/-- the map of the counters around each section, of the first k -/
def Rings (w : World) (b : Nat) (K : Nat → Nat → Int) (k : Nat) : Prop :=
  ∃ D : DataW Unit, w.ownsGroups Try.prog 3 (b + 1) 3 .i64 b (2 * k) D ∧ ∀ s : Int, -1000 ≤ s ∧ s ≤ 1000 → items (D.atKey (.int .i64 s) .nil) = lits .i64 (arN K s k)
theorem Rings.at {w : World} {b : Nat} {K : Nat → Nat → Int} {k : Nat} (h : Rings w b K k) (hk : k ≤ 120) {s : Int} (hs : -1000 ≤ s ∧ s ≤ 1000) :
    ∃ v, (∀ y : World, y.heap[b]? = w.heap[b]? → (Instr.lookup 72 (.map (some b)) (.int .i64 s) false).run Try.prog y = .ok v y) ∧ w.ownsInts (b + 1) 3 .i64 v (arN K s k) := by
  obtain ⟨D, h1, h2⟩ := h
  obtain ⟨v, zs, h3, h4, h5, h6, h7⟩ := gLook h1 (by simp only [maxLen]; omega) (key3 (x := s) (by omega))
  have := h2 s hs
  rw [h4, items_row h5] at this
  rw [← lits_inj this]
  exact ⟨v, h3, h5⟩
theorem Rings.made (w : World) (K : Nat → Nat → Int) : Rings (w.alloc (.map #[] 0)) w.heap.size K 0 := ⟨.map [], World.ownsGroups_made _ _ _ _ _, fun _ _ => rfl⟩
theorem Rings.lt {w : World} {b : Nat} {K : Nat → Nat → Int} {k : Nat} (h : Rings w b K k) : b < w.heap.size := by
  obtain ⟨D, ⟨es, clock, hb, _⟩, _⟩ := h
  exact (Array.getElem?_eq_some_iff.1 hb).1
theorem ownsInts_keep {w w' : World} {base : Nat} {v : Value} {zs : List Int} (h : w.ownsInts base 3 .i64 v zs) (hk : ∀ g, v.ownBlock = some g → w'.heap[g]? = w.heap[g]?) : w'.ownsInts base 3 .i64 v zs := by
  refine ⟨⟨h.1.1, ?_⟩, h.2⟩
  rcases h.1.2 with q | ⟨g, cap, cur, q1, q2, q3, q4⟩
  · exact .inl q
  · exact .inr ⟨g, cap, cur, q1, q2, by rw [hk g (by rw [q1]; rfl)]; exact q3, q4⟩
theorem ownsInts_kind {w : World} {base : Nat} {v : Value} {zs : List Int} (h : w.ownsInts base 3 .i64 v zs) {g : Nat} (hg : v.ownBlock = some g) : ∃ cur : Array Value, w.heap[g]? = some (.cells cur 3 (0, 0)) := by
  rcases h.1.2 with ⟨rfl, _⟩ | ⟨g', cap, cur, rfl, q2, q3, q4⟩
  · simp [Value.ownBlock] at hg
  · simp only [Value.ownBlock, Option.some.injEq] at hg
    subst hg
    exact ⟨cur, q3⟩
/-- it stays where neither the map nor a block of numbers turns -/
theorem Rings.keep {w w' : World} {b : Nat} {K : Nat → Nat → Int} {k : Nat} (h : Rings w b K k) (hb' : w'.heap[b]? = w.heap[b]?) (hk : ∀ (g : Nat) (cur : Array Value), w.heap[g]? = some (.cells cur 3 (0, 0)) → w'.heap[g]? = w.heap[g]?) : Rings w' b K k := by
  obtain ⟨D, ⟨es, clock, hb, F, hs, rfl, hbb, hlen, hap⟩, h2⟩ := h
  have hst : ∀ x ∈ es.toList, ∀ z, rowElem (H := Unit) w (b + 1) 3 .i64 x.val = some z → rowElem w' (b + 1) 3 .i64 x.val = some z := fun x hx z hz => by
    obtain ⟨zs, ho, rfl⟩ := rowElem_inv hz
    exact rowElem_mk (ownsInts_keep ho fun g hg => by obtain ⟨cur, hc⟩ := ownsInts_kind ho hg; exact hk g cur hc)
  obtain ⟨F1, hmap, _⟩ := F.stay hst
  refine ⟨_, ⟨es, clock, hb'.trans hb, F1, hs, rfl, hbb, fun x hx zs ho => ?_, hap⟩, by rw [hmap]; exact h2⟩
  obtain ⟨y, hy⟩ := F.reads x hx
  obtain ⟨z, hz, _⟩ := WideElems.rd_val hy
  obtain ⟨zs0, ho0, _⟩ := rowElem_inv hz
  rw [ho.unique (ownsInts_keep ho0 fun g hg => by obtain ⟨cur, hc⟩ := ownsInts_kind ho0 hg; exact hk g cur hc)]
  exact hlen x hx zs0 ho0
theorem Rings.mono {w w' : World} {b : Nat} {K : Nat → Nat → Int} {k M : Nat} (h : Rings w b K k) (hb : Below M w w') (hM : w.heap.size ≤ M) : Rings w' b K k :=
  h.keep (hb.block b (by have := h.lt; omega)) fun g cur hc => hb.block g (by have := (Array.getElem?_eq_some_iff.1 hc).1; omega)
theorem Rings.drew {w : World} {b : Nat} {K : Nat → Nat → Int} {k : Nat} (h : Rings w b K k) : Rings w.drew b K k := h.keep rfl fun _ _ _ => rfl
/-- one counter more, at two sections -/
theorem Rings.step {w w1 w2 w3 : World} {b : Nat} {K : Nat → Nat → Int} {k : Nat} {D D2 : DataW Unit} (h2 : ∀ s : Int, -1000 ≤ s ∧ s ≤ 1000 → items (D.atKey (.int .i64 s) .nil) = lits .i64 (arN K s k))
    {v v' u u' : Value} {zs ys : List Int} (hf : -1000 ≤ K k 0 ∧ K k 0 ≤ 1000) (ht : -1000 ≤ K k 1 ∧ K k 1 ≤ 1000) (hne : K k 0 ≠ K k 1) (hD : Maps.IsMap D)
    (a1 : D.atKey (.int .i64 (K k 0)) .nil = rowDatum .i64 v zs) (o1 : w.ownsInts (b + 1) 3 .i64 v zs) (o1' : w1.ownsInts (b + 1) 3 .i64 v' (zs ++ [(k : Int)]))
    (a2 : (D.put (.int .i64 (K k 0)) (rowDatum .i64 v' (zs ++ [(k : Int)]))).atKey (.int .i64 (K k 1)) .nil = rowDatum .i64 u ys) (o2 : w3.ownsInts (b + 1) 3 .i64 u ys) (o2' : w2.ownsInts (b + 1) 3 .i64 u' (ys ++ [(k : Int)]))
    (e2 : D2 = (D.put (.int .i64 (K k 0)) (rowDatum .i64 v' (zs ++ [(k : Int)]))).put (.int .i64 (K k 1)) (rowDatum .i64 u' (ys ++ [(k : Int)]))) :
    ∀ s : Int, -1000 ≤ s ∧ s ≤ 1000 → items (D2.atKey (.int .i64 s) .nil) = lits .i64 (arN K s (k + 1)) := by
  intro s hs
  have hne' : (Lit.int .i64 (K k 1)) ≠ .int .i64 (K k 0) := fun e => hne (by simp only [Lit.int.injEq, true_and] at e; exact e.symm)
  have z1 : zs = arN K (K k 0) k := by
    have := h2 _ hf
    rw [a1, items_row o1] at this
    exact lits_inj this
  have z2 : ys = arN K (K k 1) k := by
    rw [Maps.atKey_put_other hne'] at a2
    have := h2 _ ht
    rw [a2, items_row o2] at this
    exact lits_inj this
  have hD1 : Maps.IsMap (D.put (.int .i64 (K k 0)) (rowDatum .i64 v' (zs ++ [(k : Int)]))) := by
    obtain ⟨es, rfl⟩ := hD
    exact ⟨_, rfl⟩
  subst e2
  simp only [arN]
  by_cases s1 : s = K k 1
  · subst s1
    rw [Maps.atKey_put_same (k := .int .i64 (K k 1)) hD1 trivial, items_row o2', if_pos (Or.inr rfl), z2]
  · rw [Maps.atKey_put_other (fun e => s1 (by simpa using e))]
    by_cases s0 : s = K k 0
    · subst s0
      rw [Maps.atKey_put_same (k := .int .i64 (K k 0)) hD trivial, items_row o1', if_pos (Or.inl rfl), z1]
    · rw [Maps.atKey_put_other (fun e => s0 (by simpa using e)), if_neg (by intro q; rcases q with q | q <;> omega)]
      exact h2 s hs
theorem groups_isMap {w : World} {b base n : Nat} {D : DataW Unit} (h : w.ownsGroups Try.prog 3 base 3 .i64 b n D) : Maps.IsMap D := by
  obtain ⟨es, clock, _, _, _, rfl, _⟩ := h
  exact ⟨_, rfl⟩

end Go.Proofs.Ytmcaohablpaknaa
