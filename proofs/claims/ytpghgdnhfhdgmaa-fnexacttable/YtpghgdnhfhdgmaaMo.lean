import Derived.Test.YtpghgdnhfhdgmaaTy
import Derived.Deep.OwnRows
namespace Go.Proofs.Ytpghgdnhfhdgmaa
open Go.RowKit

/-- the rows of a slice, as a list -/
def lsF (c n : Nat) (F : Nat → Nat → Int) : List Rw := (List.range n).map fun i => (List.range c).map fun j => F i j
theorem lsF_len (c n : Nat) (F : Nat → Nat → Int) : (lsF c n F).length = n := by simp [lsF]
theorem lsF_wide (c n : Nat) (F : Nat → Nat → Int) : Wide c (lsF c n F) := fun r hr => by
  obtain ⟨i, _, rfl⟩ := List.mem_map.1 hr
  simp
theorem lsF_fn {c n : Nat} {F : Nat → Nat → Int} {i j : Nat} (hi : i < n) (hj : j < c) : fnL (lsF c n F) i j = F i j := by
  simp [fnL, lsF, List.getD_eq_getElem?_getD, hi, hj]
theorem lsF_succ (c n : Nat) (F : Nat → Nat → Int) : lsF c (n + 1) F = lsF c n F ++ [(List.range c).map (F n)] := by simp [lsF, List.range_succ]
theorem lsF_zero (c : Nat) (F : Nat → Nat → Int) : lsF c 0 F = [] := rfl
theorem lsF_ext {c n : Nat} {F G : Nat → Nat → Int} (h : ∀ i, i < n → ∀ j, j < c → F i j = G i j) : lsF c n F = lsF c n G := by
  refine List.map_congr_left fun i hi => List.map_congr_left fun j hj => h i (List.mem_range.1 hi) j (List.mem_range.1 hj)
theorem lsF_of {c : Nat} {l : List Rw} (h : Wide c l) : lsF c l.length (fnL l) = l := by
  refine List.ext_getElem? fun i => ?_
  by_cases hi : i < l.length
  · rw [List.getElem?_eq_getElem hi]
    simp only [lsF, List.getElem?_map, List.getElem?_range hi, Option.map_some, Option.some.injEq]
    refine List.ext_getElem? fun j => ?_
    have hw := h l[i] (List.getElem_mem hi)
    by_cases hj : j < c
    · rw [List.getElem?_eq_getElem (l := l[i]) (by omega)]
      simp only [List.getElem?_map, List.getElem?_range hj, Option.map_some, fnL, List.getD_eq_getElem?_getD, List.getElem?_eq_getElem hi, Option.getD_some]
      rw [List.getElem?_eq_getElem (l := l[i]) (by omega)]
      rfl
    · rw [List.getElem?_eq_none (by simp; omega), List.getElem?_eq_none (l := l[i]) (by omega)]
  · rw [List.getElem?_eq_none (by rw [lsF_len]; omega), List.getElem?_eq_none (by omega)]

/-- a row that is being filled: its first p cells -/
def NsTo (c : Nat) (e : TypeId) (w : World) (B n p : Nat) (F : Nat → Nat → Int) : Prop :=
  ∃ f, w.rowIs B e (n * c) f ∧ ∀ q, q < p → f q = .int .i64 (F (q / c) (q % c))
theorem NsTo.step {c : Nat} {e : TypeId} {w : World} {B n p : Nat} {F : Nat → Nat → Int} (h : NsTo c e w B n p F) {x : Int} (hx : F (p / c) (p % c) = x) : NsTo c e (w.setCell ⟨B, p, none⟩ (.int .i64 x)) B n (p + 1) F := by
  obtain ⟨f, hr, hf⟩ := h
  refine ⟨_, hr.set _ _, fun q hq => ?_⟩
  by_cases e : q = p
  · subst e
    simp [hx]
  · simp only [e, if_false]
    exact hf q (by omega)
theorem NsTo.below {c : Nat} {e : TypeId} {w w' : World} {B n p : Nat} {F : Nat → Nat → Int} (h : NsTo c e w B n p F) (hb : Below w.heap.size w w') : NsTo c e w' B n p F := by
  obtain ⟨f, hr, hf⟩ := h
  exact ⟨f, hr.of_block (hb.block B hr.lt), hf⟩
theorem NsTo.own {c : Nat} {e : TypeId} {w : World} {b n : Nat} {F : Nat → Nat → Int} (h : NsTo c e w b n (n * c) F) (hn : n ≤ maxLen) : Own b e c w (.slice (some ⟨b, 0, none⟩) n n) (lsF c n F) := by
  obtain ⟨f, ⟨cur, h1, h2, h3⟩, hf⟩ := h
  refine ⟨lsF_wide _ _ _, cellsL_len (lsF_wide _ _ _), .inr ⟨b, n, cur, by rw [lsF_len], Nat.le_refl _, h1, by rw [lsF_len]; exact Nat.le_refl _, hn, h2, ?_⟩⟩
  rw [lsF_len]
  refine List.ext_getElem? fun k => ?_
  by_cases hk : k < n * c
  · have hc : 0 < c := Nat.pos_of_ne_zero fun e => by subst e; simp at hk
    rw [List.getElem?_take_of_lt hk]
    have h5 := h3 k hk
    have h6 : cur.toList[k]? = some (f k) := by simpa using h5
    rw [h6, hf k hk]
    have hq : k / c < n := (Nat.div_lt_iff_lt_mul hc).2 hk
    have hm : k % c < c := Nat.mod_lt _ hc
    have h7 := cellsL_at (lsF_wide c n F) (i := k / c) (j := k % c) (by rw [lsF_len]; exact hq) hm
    rw [lsF_fn hq hm, Nat.mul_comm, Nat.div_add_mod] at h7
    exact h7.symm
  · rw [List.getElem?_eq_none (by simp; omega), List.getElem?_eq_none (by rw [cellsL_len (lsF_wide _ _ _), lsF_len]; omega)]

def mk0 (z : Value) (k : Nat) : Array Value := madeCells z.cells k
theorem make_rows {P : Program} (t e : TypeId) (z : Value) (bytes size : Nat) (ht : P.underlying t = some (.slice e)) (hinfo : (P.info? e).map (fun i => (i.zero, i.size, i.bytes)) = some (some z, size, bytes))
    (n : Nat) (hbytes : bytes * n ≤ 281474976710656) (h63 : n ≤ 9223372036854775807) (w : World) :
    (Instr.makeSlice t (.int .i64 (n : Int)) (.int .i64 (n : Int))).run P w = .ok (.slice (some ⟨w.heap.size, 0, none⟩) n n) (w.alloc (.cells (mk0 z (n * size)) e)) := by
  obtain ⟨i, hi, hzz⟩ := Option.map_eq_some_iff.1 hinfo
  simp only [Prod.mk.injEq] at hzz
  obtain ⟨hz, hs, hb⟩ := hzz
  have hb' : (i.bytes : Int) * (n : Int) ≤ 281474976710656 := by
    have h : ((i.bytes * n : Nat) : Int) ≤ 281474976710656 := by rw [hb]; omega
    rwa [Int.natCast_mul] at h
  have hr := run_make (P := P) w t e i z ht hi hz .i64 .i64 n n (by omega) (Int.le_refl _) hb' (by omega)
  simp only [Int.toNat_natCast, hs] at hr
  exact hr
theorem row_mk0 (w : World) (z : Value) (k : Nat) (e : TypeId) : ∃ f, (w.alloc (.cells (mk0 z k) e)).rowIs w.heap.size e k f := by
  refine ⟨fun i => (mk0 z k).getD i z, ?_⟩
  have h := World.rowIs_alloc w (mk0 z k) e (fun i => (mk0 z k).getD i z) (fun i hi => by simp [Array.getD, hi])
  have hs : (mk0 z k).size = k := size_madeCells _ _
  rw [hs] at h
  exact h
theorem NsTo.new (c : Nat) (e : TypeId) (w : World) (z : Value) (n : Nat) (F : Nat → Nat → Int) : NsTo c e (w.alloc (.cells (mk0 z (n * c)) e)) w.heap.size n 0 F := by
  obtain ⟨f, hf⟩ := row_mk0 w z (n * c) e
  exact ⟨f, hf, fun q hq => absurd hq (Nat.not_lt_zero _)⟩

/-- what lay there and is none of X lies as it lay -/
structure Fr (X : Nat → Prop) (w w' : World) : Prop where
  os : w'.os = w.os
  tape : w'.tape = w.tape
  output : w'.output = w.output
  size : w.heap.size ≤ w'.heap.size
  block : ∀ k, k < w.heap.size → ¬ X k → w'.heap[k]? = w.heap[k]?
theorem Fr.refl (X : Nat → Prop) (w : World) : Fr X w w := ⟨rfl, rfl, rfl, Nat.le_refl _, fun _ _ _ => rfl⟩
theorem Fr.trans {X : Nat → Prop} {a b c : World} (h : Fr X a b) (k : Fr X b c) : Fr X a c :=
  ⟨k.os.trans h.os, k.tape.trans h.tape, k.output.trans h.output, Nat.le_trans h.size k.size, fun i hi hx => (k.block i (Nat.lt_of_lt_of_le hi h.size) hx).trans (h.block i hi hx)⟩
theorem Fr.mono {X Y : Nat → Prop} {a b : World} (h : Fr X a b) (hy : ∀ k, k < a.heap.size → X k → Y k) : Fr Y a b := ⟨h.os, h.tape, h.output, h.size, fun i hi hx => h.block i hi fun x => hx (hy i hi x)⟩
theorem Fr.of_below {X : Nat → Prop} {w w' : World} (h : Below w.heap.size w w') : Fr X w w' := ⟨h.os, h.tape, h.output, h.size, fun k hk _ => h.block k hk⟩
theorem Fr.drew {X : Nat → Prop} {w w' : World} (h : Fr X w w') : Fr X w w'.drew := ⟨h.os, h.tape, h.output, h.size, h.block⟩
theorem Fr.below {X : Nat → Prop} {w w' : World} (h : Fr X w w') {B : Nat} (hB : B ≤ w.heap.size) (hx : ∀ k, k < B → ¬ X k) : Below B w w' := ⟨h.os, h.tape, h.output, h.size, fun k hk => h.block k (by omega) (hx k hk)⟩

/-- a fresh block of one row -/
theorem news_at {w : World} {e : TypeId} (r : Rw) {q : Nat} (hq : w.heap.size = q) : ∀ j u, (cellsL [r])[j]? = some u → (w.alloc (.cells (r.map (Value.int .i64)).toArray e)).cell? ((⟨q, 0, none⟩ : Addr).add j) = some u := by
  subst hq
  intro j u hj
  have h1 : (w.alloc (.cells (r.map (Value.int .i64)).toArray e)).cell? ⟨w.heap.size, j, none⟩ = some u := by
    rw [World.cell?_alloc_at _ _ _ _ rfl]
    simpa [cellsL] using hj
  by_cases h0 : j = 0
  · subst h0; simpa [Addr.add] using h1
  · simpa [Addr.add, h0] using h1
theorem info_parts {P : Program} {e : TypeId} {z : Value} {s b : Nat} (h : (P.info? e).map (fun i => (i.zero, i.size, i.bytes)) = some (some z, s, b)) : ∃ i, P.info? e = some i ∧ i.zero = some z ∧ i.size = s ∧ i.bytes = b := by
  obtain ⟨i, hi, hzz⟩ := Option.map_eq_some_iff.1 h
  simp only [Prod.mk.injEq] at hzz
  exact ⟨i, hi, hzz.1, hzz.2.1, hzz.2.2⟩

end Go.Proofs.Ytpghgdnhfhdgmaa
