import Derived.Test.YtjhmaofjmalglaaGreatZaa
import Derived.Test.YtjhmaofjmalglaaGreatZab
import Derived.Test.YtjhmaofjmalglaaGreatZao
import Derived.Test.YtjhmaofjmalglaaGreatZan
import Derived.BigQuiet
import Derived.Deep.RegionWith
import Derived.Deep.RegionHeld3
import Derived.Deep.OwnRows
import Derived.Lib.SmallJoins
import Derived.Deep.CutBlock
namespace Go.Proofs.YtjhmaofjmalglaaGreat
open Go.RowKit Go.Lib
theorem cell_keep {B : Nat} {W w1 : World} {b o : Nat} {v : Value} (hb : Below B W w1) (hlt : b < B) (h : W.cell? ⟨b, o, none⟩ = some v) : w1.cell? ⟨b, o, none⟩ = some v := (hb.cell (p := ⟨b, o, none⟩) hlt).trans h
def Box (w : World) (b : Nat) (T : TypeId) (vs : Array Value) : Prop := w.heap[b]? = some (.cells vs T (0, 0))
theorem Box.lt {w : World} {b : Nat} {T : TypeId} {vs : Array Value} (h : Box w b T vs) : b < w.heap.size := (Array.getElem?_eq_some_iff.1 h).1
theorem Box.cell {w : World} {b : Nat} {T : TypeId} {vs : Array Value} (h : Box w b T vs) (j : Nat) : w.cell? ⟨b, j, none⟩ = vs[j]? := by
 have h' : w.heap[b]? = some (.cells vs T (0, 0)) := h
 simp [World.cell?, h']
theorem Box.free {w : World} {b : Nat} {T : TypeId} {vs : Array Value} (h : Box w b T vs) (j : Nat) : w.frozen? ⟨b, j, none⟩ = false := by
 have h' : w.heap[b]? = some (.cells vs T (0, 0)) := h
 simp [World.frozen?, h']
theorem Box.keep {w w' : World} {b : Nat} {T : TypeId} {vs : Array Value} (h : Box w b T vs) (hk : w'.heap[b]? = w.heap[b]?) : Box w' b T vs := by
 show w'.heap[b]? = _
 rw [hk]; exact h
theorem Box.alloc {w : World} {b : Nat} {T : TypeId} {vs : Array Value} (h : Box w b T vs) (o : Obj) : Box (w.alloc o) b T vs := h.keep (Below.heap_alloc w o b h.lt)
theorem Box.new (w : World) (T : TypeId) (vs : Array Value) : Box (w.alloc (.cells vs T)) w.heap.size T vs := heap_alloc_new w _
theorem Box.set {w : World} {b : Nat} {T : TypeId} {vs : Array Value} (h : Box w b T vs) (j : Nat) (v : Value) : Box (w.setCell ⟨b, j, none⟩ v) b T (vs.setIfInBounds j v) := by
 have h' : w.heap[b]? = some (.cells vs T (0, 0)) := h
 show (w.setCell ⟨b, j, none⟩ v).heap[b]? = _
 simp [World.setCell, Array.getElem?_modify, h']
theorem Box.other {w : World} {b : Nat} {T : TypeId} {vs : Array Value} (h : Box w b T vs) {p : Addr} (hp : b ≠ p.block) (v : Value) : Box (w.setCell p v) b T vs := h.keep (Below.heap_setCell w p v b hp)
theorem Box.drew {w : World} {b : Nat} {T : TypeId} {vs : Array Value} (h : Box w b T vs) : Box w.drew b T vs := h
theorem Box.mono {w w' : World} {b : Nat} {T : TypeId} {vs : Array Value} {N : Nat} (h : Box w b T vs) (hb : Below N w w') (hN : w.heap.size ≤ N) : Box w' b T vs := h.keep (hb.block b (by have := h.lt; omega))
structure Fr (X : Nat → Prop) (w w' : World) : Prop where
 os : w'.os = w.os
 tape : w'.tape = w.tape
 output : w'.output = w.output
 size : w.heap.size ≤ w'.heap.size
 block : ∀ k, k < w.heap.size → ¬ X k → w'.heap[k]? = w.heap[k]?
theorem Fr.refl (X : Nat → Prop) (w : World) : Fr X w w := ⟨rfl, rfl, rfl, Nat.le_refl _, fun _ _ _ => rfl⟩
theorem Fr.trans {X : Nat → Prop} {a b c : World} (h : Fr X a b) (k : Fr X b c) : Fr X a c :=
 ⟨k.os.trans h.os, k.tape.trans h.tape, k.output.trans h.output, Nat.le_trans h.size k.size, fun i hi hx => (k.block i (Nat.lt_of_lt_of_le hi h.size) hx).trans (h.block i hi hx)⟩
theorem Fr.mono {X Y : Nat → Prop} {a b : World} (h : Fr X a b) (hy : ∀ k, k < a.heap.size → X k → Y k) : Fr Y a b := ⟨h.os, h.tape, h.output, h.size, fun i hi hx => h.block i hi fun x => hx (hy i hi x)⟩
theorem Fr.of_below {X : Nat → Prop} {w w' : World} (h : Below w.heap.size w w') : Fr X w w' := ⟨h.os, h.tape, h.output, h.size, fun k hk _ => h.block k hk⟩
theorem Fr.drew {X : Nat → Prop} {w w' : World} (h : Fr X w w') : Fr X w w'.drew := ⟨h.os, h.tape, h.output, h.size, h.block⟩
theorem Fr.below {X : Nat → Prop} {w w' : World} (h : Fr X w w') {B : Nat} (hB : B ≤ w.heap.size) (hx : ∀ k, k < B → ¬ X k) : Below B w w' := ⟨h.os, h.tape, h.output, h.size, fun k hk => h.block k (by omega) (hx k hk)⟩
theorem info_parts {P : Program} {e : TypeId} {z : Value} {s b : Nat} (h : (P.info? e).map (fun i => (i.zero, i.size, i.bytes)) = some (some z, s, b)) : ∃ i, P.info? e = some i ∧ i.zero = some z ∧ i.size = s ∧ i.bytes = b := by
 obtain ⟨i, hi, hzz⟩ := Option.map_eq_some_iff.1 h
 simp only [Prod.mk.injEq] at hzz
 exact ⟨i, hi, hzz.1, hzz.2.1, hzz.2.2⟩
theorem size_setc (w : World) (p : Addr) (v : Value) : (w.setCell p v).heap.size = w.heap.size := by simp [World.setCell]
theorem Box.fr {w w' : World} {b : Nat} {T : TypeId} {vs : Array Value} {X : Nat → Prop} (h : Box w b T vs) (hf : Fr X w w') (hx : ¬ X b) : Box w' b T vs := h.keep (hf.block b h.lt hx)
theorem nr {n : Nat} : n ≤ n := Nat.le_refl n
theorem Box.cel {w : World} {b : Nat} {T : TypeId} {vs : Array Value} (h : Box w b T vs) (j : Nat) {v : Value} (hv : vs[j]? = some v := by first | (simp only [List.getElem?_toArray, List.getElem?_cons_zero, List.getElem?_cons_succ]; rfl) | (simp only [List.setIfInBounds_toArray, List.set_cons_zero, List.set_cons_succ, List.getElem?_toArray, List.getElem?_cons_zero, List.getElem?_cons_succ]; rfl) | (simp; rfl) | rfl) : w.cell? ⟨b, j, none⟩ = some v := (h.cell j).trans hv
theorem take_lit {P : Program} {L : List Oper} {Q : Exit → Act → World → Prop} {md : Region.Mode} {S : World → Prop} {i : Nat} {oi : Oper} {v : Value} {fuel : Nat} {listed : Array Bool} {a : Act} {w : World} (hi : L[i]? = some oi)
  (hs : Region.noSelect L.toArray = true) (hf : Region.free md L.toArray listed i = true) (hr : (Region.ready md L.toArray listed).contains i = true)
  (hQ : ∀ c a w, Q (.panic c) (a.put oi.dst v) w → Q (.panic c) a w) (hy : YieldsIf P L.toArray S oi v a) (hS : S w)
  (h : wpAnyH P md L.toArray Q S fuel (listed.setIfInBounds i true) (a.put oi.dst v) w) : wpAnyH P md L.toArray Q S (fuel + 1) listed a w :=
 wpAnyH_take (by simpa using hi) hs hf hr hQ hy hS h
theorem ready_lit {P : Program} {L : List Oper} {Q : Exit → Act → World → Prop} {md : Region.Mode} {S : World → Prop} {i : Nat} {o : Oper} {fuel : Nat} {listed : Array Bool} {a : Act} {w : World} (hr : Region.ready md L.toArray listed = [i]) (ho : L[i]? = some o)
  (h : ∀ K' : Act → World → Prop, Shut (∀ a w, S w → (S w → wpAnyH P md L.toArray Q S fuel (listed.setIfInBounds i true) a w) → K' a w) → if Region.wanted o (yielded L.toArray a.tmps) = true then Oper.wp P o a w K' Q else K' (a.put o.dst undef) w) : wpAnyH P md L.toArray Q S (fuel + 1) listed a w :=
 wpAnyH_ready hr (by simp) (AllReadyH.cons (by simpa using ho) h AllReadyH.nil)
theorem tk {P : Program} {L : List Oper} {Q : Exit → Act → World → Prop} {md : Region.Mode} {S : World → Prop} {oi : Oper} {v : Value} {fuel : Nat} {listed l2 : Array Bool} {a a2 : Act} {w : World} (i : Nat) (h : wpAnyH P md L.toArray Q S fuel l2 a2 w) (hi : L[i]? = some oi := by rfl)
 (hs : Region.noSelect L.toArray = true := by kernel_rfl) (hf : Region.free md L.toArray listed i = true := by kernel_rfl) (hr : (Region.ready md L.toArray listed).contains i = true := by kernel_rfl)
 (hy : YieldsIf P L.toArray S oi v a := by exact Or.inl ⟨by rfl, by intro wq hSw; (try dsimp only at hSw); go_simp; try with_reducible rfl⟩)
 (hQ : ∀ c a w, Q (.panic c) (a.put oi.dst v) w → Q (.panic c) a w := by exact fun _ _ _ h => h) (hS : S w := by assumption)
 (hl : listed.setIfInBounds i true = l2 := by ((try simp only [List.setIfInBounds_toArray, List.set_cons_zero, List.set_cons_succ]); rfl)) (ha : a.put oi.dst v = a2 := by (simp only [Act.put, List.setIfInBounds_toArray, List.set_cons_zero, List.set_cons_succ]; rfl)) : wpAnyH P md L.toArray Q S (fuel + 1) listed a w :=
 take_lit hi hs hf hr hQ hy hS (by rw [hl, ha]; exact h)
theorem tf {P : Program} {L : List Oper} {Q : Exit → Act → World → Prop} {md : Region.Mode} {S : World → Prop} {oi : Oper} {fuel : Nat} {listed l2 : Array Bool} {a a2 : Act} {w : World} (i : Nat) (h : wpAnyH P md L.toArray Q S fuel l2 a2 w) (hi : L[i]? = some oi := by rfl)
 (hs : Region.noSelect L.toArray = true := by kernel_rfl) (hf : Region.free md L.toArray listed i = true := by kernel_rfl) (hr : (Region.ready md L.toArray listed).contains i = true := by kernel_rfl)
 (hy : YieldsIf P L.toArray S oi undef a := by exact Or.inr ⟨by kernel_rfl, rfl⟩)
 (hQ : ∀ c a w, Q (.panic c) (a.put oi.dst undef) w → Q (.panic c) a w := by exact fun _ _ _ h => h) (hS : S w := by assumption)
 (hl : listed.setIfInBounds i true = l2 := by ((try simp only [List.setIfInBounds_toArray, List.set_cons_zero, List.set_cons_succ]); rfl)) (ha : a.put oi.dst undef = a2 := by (simp only [Act.put, List.setIfInBounds_toArray, List.set_cons_zero, List.set_cons_succ]; rfl)) : wpAnyH P md L.toArray Q S (fuel + 1) listed a w :=
 take_lit hi hs hf hr hQ hy hS (by rw [hl, ha]; exact h)
theorem rl {P : Program} {L : List Oper} {Q : Exit → Act → World → Prop} {md : Region.Mode} {S : World → Prop} {o : Oper} {fuel : Nat} {listed : Array Bool} {a : Act} {w : World} (i : Nat)
 (h : ∀ K' : Act → World → Prop, Shut (∀ a w, S w → (S w → wpAnyH P md L.toArray Q S fuel (listed.setIfInBounds i true) a w) → K' a w) → if Region.wanted o (yielded L.toArray a.tmps) = true then Oper.wp P o a w K' Q else K' (a.put o.dst undef) w)
 (hr : Region.ready md L.toArray listed = [i] := by kernel_rfl) (ho : L[i]? = some o := by rfl) : wpAnyH P md L.toArray Q S (fuel + 1) listed a w :=
 ready_lit hr ho h
set_option maxHeartbeats 2000000 in
theorem room90 {v : Nv} (ok : v.Ok) (pa : Option Addr) (pc : Nat) (ja : Option Addr) (jc : Nat) (p : Nat) (a way : Int) (w : World) (hp : p < v.n) (ha : 0 ≤ a ∧ a ≤ (v.P p).ln) (hP : PsAt 0 w pa v.n v.P) :
  Calls Tryz.prog 78 #[.agg #[.slice pa v.n pc, .slice ja v.m jc], .agg #[.int .i64 (p : Int), .int .i64 a, .int .i64 way]] w fun e w' => e = .returned (.int .i64 (if way = 1 then (v.P p).ln - a else a)) ∧ Below w.heap.size w w' := by
 obtain ⟨b, off, rfl, _, hb, hc⟩ := hP (by omega)
 have HC1 : Hid (b < w.heap.size ∧ w.cell? ⟨b, off + p * 4 + 1, none⟩ = some (.int .i64 (v.P p).ln)) := ⟨hb, (hc p hp).2.1⟩
 have hpi : (p : Int) < (v.n : Int) := by omega
 have hp0 : (0 : Int) ≤ (p : Int) := by omega
 have hl := ok.ln p hp
 have hn := ok.n1
 clear hc hP ok hb
 have S0 : Hid (Below w.heap.size w ((w.alloc (.cells #[.slice (some ⟨b, off, none⟩) v.n pc, .slice ja v.m jc] 40)).alloc (.cells #[.int .i64 (p : Int), .int .i64 a, .int .i64 way] 30)) ∧ Box ((w.alloc (.cells #[.slice (some ⟨b, off, none⟩) v.n pc, .slice ja v.m jc] 40)).alloc (.cells #[.int .i64 (p : Int), .int .i64 a, .int .i64 way] 30)) w.heap.size 40 #[.slice (some ⟨b, off, none⟩) v.n pc, .slice ja v.m jc] ∧ Box ((w.alloc (.cells #[.slice (some ⟨b, off, none⟩) v.n pc, .slice ja v.m jc] 40)).alloc (.cells #[.int .i64 (p : Int), .int .i64 a, .int .i64 way] 30)) (w.heap.size + 1) 30 #[.int .i64 (p : Int), .int .i64 a, .int .i64 way]) := ⟨bel2 _ _ _, (Box.new _ _ _).alloc _, by have := Box.new (w.alloc (.cells #[.slice (some ⟨b, off, none⟩) v.n pc, .slice ja v.m jc] 40)) 30 #[.int .i64 (p : Int), .int .i64 a, .int .i64 way]; simpa using this⟩
 have hwr : IntKind.i64.wrap ((v.P p).ln - a) = (v.P p).ln - a := by rw [IntKind.wrap_i64]; omega
 by_cases hw : way = 1
 ·
  have HR : Hid ((if way = 1 then (v.P p).ln - a else a) = (v.P p).ln - a) := if_pos hw
  rw [HR.out]
  subst hw
  go_enter Tryz.func78, Tryz.ntmps78
  go_upto_region 1 with fail
  generalize ((w.alloc (.cells #[.slice (some ⟨b, off, none⟩) v.n pc, .slice ja v.m jc] 40)).alloc (.cells #[.int .i64 (p : Int), .int .i64 a, .int .i64 1] 30)) = V0 at S0 ⊢
  have c1 : V0.cell? ⟨b, off + p * 4 + 1, none⟩ = some (.int .i64 (v.P p).ln) := cell_keep S0.out.1 HC1.out.1 HC1.out.2
  have n0 : V0.cell? ⟨w.heap.size, 0, none⟩ = some (.slice (some ⟨b, off, none⟩) v.n pc) := S0.out.2.1.cell 0
  have s0 : V0.cell? ⟨w.heap.size + 1, 0, none⟩ = some (.int .i64 (p : Int)) := S0.out.2.2.cell 0
  have s1 : V0.cell? ⟨w.heap.size + 1, 1, none⟩ = some (.int .i64 a) := S0.out.2.2.cell 1
  have s2 : V0.cell? ⟨w.heap.size + 1, 2, none⟩ = some (.int .i64 1) := S0.out.2.2.cell 2
  go_wp2_with fail
  go_quiet (fail)
  go_wp2_with fail
  go_ret
  exact ⟨by rw [← hwr]; rfl, below_drewN S0.out.1 _⟩
 ·
  have HR : Hid ((if way = 1 then (v.P p).ln - a else a) = a) := if_neg hw
  have hw' : (way == 1) = false := by simpa using hw
  rw [HR.out]
  clear hw
  go_enter Tryz.func78, Tryz.ntmps78
  go_upto_region 1 with fail
  generalize ((w.alloc (.cells #[.slice (some ⟨b, off, none⟩) v.n pc, .slice ja v.m jc] 40)).alloc (.cells #[.int .i64 (p : Int), .int .i64 a, .int .i64 way] 30)) = V0 at S0 ⊢
  have s1 : V0.cell? ⟨w.heap.size + 1, 1, none⟩ = some (.int .i64 a) := S0.out.2.2.cell 1
  have s2 : V0.cell? ⟨w.heap.size + 1, 2, none⟩ = some (.int .i64 way) := S0.out.2.2.cell 2
  go_wp2_with fail
  go_ret
  exact ⟨rfl, S0.out.1⟩
set_option maxRecDepth 100000 in
set_option maxHeartbeats 4000000 in
theorem behind63 {v : Nv} (ok : v.Ok) (pa : Option Addr) (pc : Nat) (ja : Option Addr) (jc : Nat) (p : Nat) (a way : Int) (w : World) (hp : p < v.n) (ha : 0 ≤ a ∧ a ≤ (v.P p).ln) (hP : PsAt 0 w pa v.n v.P) :
  Calls Tryz.prog 35 #[.agg #[.slice pa v.n pc, .slice ja v.m jc], .agg #[.int .i64 (p : Int), .int .i64 a, .int .i64 way]] w fun e w' => e = .returned (.int .i64 (farI (v.P p).ln a way)) ∧ Below w.heap.size w w' := by
 have HP : Hid (PsAt 0 w pa v.n v.P ∧ v.Ok) := ⟨hP, ok⟩
 obtain ⟨b, off, rfl, _, hb, hc⟩ := hP (by omega)
 have HC1 : Hid (b < w.heap.size ∧ w.cell? ⟨b, off + p * 4 + 1, none⟩ = some (.int .i64 (v.P p).ln)) := ⟨hb, (hc p hp).2.1⟩
 have hpi : (p : Int) < (v.n : Int) := by omega
 have hp0 : (0 : Int) ≤ (p : Int) := by omega
 have hl := ok.ln p hp
 have hn := ok.n1
 clear hc hP ok hb
 have S0 : Hid (Below w.heap.size w ((w.alloc (.cells #[.slice (some ⟨b, off, none⟩) v.n pc, .slice ja v.m jc] 40)).alloc (.cells #[.int .i64 (p : Int), .int .i64 a, .int .i64 way] 30)) ∧ Box ((w.alloc (.cells #[.slice (some ⟨b, off, none⟩) v.n pc, .slice ja v.m jc] 40)).alloc (.cells #[.int .i64 (p : Int), .int .i64 a, .int .i64 way] 30)) w.heap.size 40 #[.slice (some ⟨b, off, none⟩) v.n pc, .slice ja v.m jc] ∧ Box ((w.alloc (.cells #[.slice (some ⟨b, off, none⟩) v.n pc, .slice ja v.m jc] 40)).alloc (.cells #[.int .i64 (p : Int), .int .i64 a, .int .i64 way] 30)) (w.heap.size + 1) 30 #[.int .i64 (p : Int), .int .i64 a, .int .i64 way]) := ⟨bel2 _ _ _, (Box.new _ _ _).alloc _, by have := Box.new (w.alloc (.cells #[.slice (some ⟨b, off, none⟩) v.n pc, .slice ja v.m jc] 40)) 30 #[.int .i64 (p : Int), .int .i64 a, .int .i64 way]; simpa using this⟩
 obtain ⟨R, HR⟩ : ∃ R, Hid ((if way = 1 then (v.P p).ln - a else a) = R) := ⟨_, rfl⟩
 have HB : Hid (0 ≤ R ∧ R ≤ (v.P p).ln ∧ (v.P p).ln - R = farI (v.P p).ln a way) := by
  show _ ∧ _ ∧ _
  rw [← HR.out, farI]
  split <;> omega
 have hwr : IntKind.i64.wrap ((v.P p).ln - R) = (v.P p).ln - R := by have := HB.out; rw [IntKind.wrap_i64]; omega
 rw [← HB.out.2.2]
 go_enter Tryz.func35, Tryz.ntmps35
 go_upto_region 1 with fail
 generalize ((w.alloc (.cells #[.slice (some ⟨b, off, none⟩) v.n pc, .slice ja v.m jc] 40)).alloc (.cells #[.int .i64 (p : Int), .int .i64 a, .int .i64 way] 30)) = V0 at S0 ⊢
 have c1 : V0.cell? ⟨b, off + p * 4 + 1, none⟩ = some (.int .i64 (v.P p).ln) := cell_keep S0.out.1 HC1.out.1 HC1.out.2
 have n0 : V0.cell? ⟨w.heap.size, 0, none⟩ = some (.slice (some ⟨b, off, none⟩) v.n pc) := S0.out.2.1.cell 0
 have n1 : V0.cell? ⟨w.heap.size, 1, none⟩ = some (.slice ja v.m jc) := S0.out.2.1.cell 1
 have s0 : V0.cell? ⟨w.heap.size + 1, 0, none⟩ = some (.int .i64 (p : Int)) := S0.out.2.2.cell 0
 have s1 : V0.cell? ⟨w.heap.size + 1, 1, none⟩ = some (.int .i64 a) := S0.out.2.2.cell 1
 have s2 : V0.cell? ⟨w.heap.size + 1, 2, none⟩ = some (.int .i64 way) := S0.out.2.2.cell 2
 have MD : Hid (Below w.heap.size w V0.drew) := S0.out.1.drew
 go_wp2_with fail
 refine wp_region_held_drew (S := (fun wx : World => wx.cell? ⟨w.heap.size, 0, none⟩ = some (.slice (some ⟨b, off, none⟩) v.n pc) ∧ wx.cell? ⟨w.heap.size, 1, none⟩ = some (.slice ja v.m jc) ∧ wx.cell? ⟨w.heap.size + 1, 0, none⟩ = some (.int .i64 (p : Int)) ∧ wx.cell? ⟨w.heap.size + 1, 1, none⟩ = some (.int .i64 a) ∧ wx.cell? ⟨w.heap.size + 1, 2, none⟩ = some (.int .i64 way) ∧ wx.cell? ⟨b, off + p * 4 + 1, none⟩ = some (.int .i64 (v.P p).ln))) (by kernel_rfl) ?_ (fun hHeld => ?_)
 ·
  exact ⟨n0, n1, s0, s1, s2, c1⟩
 refine tk 0 ?_
 refine tk 1 ?_
 refine tk 2 ?_
 refine tk 3 ?_
 refine tk 4 ?_
 refine tk 5 ?_
 refine tk 6 ?_
 refine tk 7 ?_
 refine tk 8 ?_
 refine rl 9 fun K hK => ?_
 go_simp
 refine (room90 HP.out.2 (some ⟨b, off, none⟩) pc ja jc p a way _ hp ha (HP.out.1.mono (Nat.le_refl _) MD.out (Nat.le_refl _))).mono ?_
 rintro e w1 ⟨he, hb1⟩
 rw [HR.out] at he
 subst he
 have B1 := MD.out.trans (hb1.mono MD.out.size)
 have N1 := (S0.out.2.1.drew).mono hb1 (Nat.le_refl _)
 have S1 := (S0.out.2.2.drew).mono hb1 (Nat.le_refl _)
 go_wp2_with fail
 refine hK.out _ _ ?_ (fun hHeld9 => ?_)
 ·
  exact ⟨N1.cell 0, N1.cell 1, S1.cell 0, S1.cell 1, S1.cell 2, cell_keep B1 HC1.out.1 HC1.out.2⟩
 clear hK K
 refine tk 10 ?_
 refine tk 11 ?_
 refine wpAnyH_done (by kernel_rfl) ?_ _
 have HE : Hid (Below w.heap.size w w1) := B1
 clear n0 n1 s0 s1 s2 c1 B1 hb1 N1 S1 MD
 go_wp2_with fail
 go_ret
 exact ⟨by rw [← hwr]; rfl, HE.out⟩
def spotB (v : Nv) (p a way : Int) : Bool := (inB p 0 ((v.n : Int) - 1) && (decide (way = 1) || decide (way = -1))) && inB a 0 (v.P p.toNat).ln
theorem inB_nat {k : Int} {n : Nat} (h : inB k 0 ((n : Int) - 1) = true) : ∃ i : Nat, k = (i : Int) ∧ i < n := by
 simp only [inB, Bool.and_eq_true, decide_eq_true_eq] at h
 exact ⟨k.toNat, by omega, by omega⟩
set_option maxRecDepth 100000 in
set_option maxHeartbeats 8000000 in
theorem spot62 {v : Nv} (ok : v.Ok) (pa : Option Addr) (pc : Nat) (ja : Option Addr) (jc : Nat) (p a way : Int) (w : World) (hP : PsAt 0 w pa v.n v.P) :
  Calls Tryz.prog 33 #[.agg #[.slice pa v.n pc, .slice ja v.m jc], .agg #[.int .i64 p, .int .i64 a, .int .i64 way]] w fun e w' => e = .returned (.bool (spotB v p a way)) ∧ Below w.heap.size w w' := by
 have hn := ok.n1
 have HWN : Hid (IntKind.i64.wrap ((v.n : Int) - 1) = (v.n : Int) - 1) := by show _ = _; rw [IntKind.wrap_i64]; omega
 obtain ⟨R, HR⟩ : ∃ R, Hid (spotB v p a way = R) := ⟨_, rfl⟩
 rw [HR.out]
 obtain ⟨u, HI⟩ : ∃ u, Hid (inB p 0 ((v.n : Int) - 1) = u) := ⟨_, rfl⟩
 cases u with
 | false =>
  have HT : Hid (R = false) := HR.out.symm.trans (by rw [spotB, HI.out]; rfl)
  clear hP ok
  have S0 : Hid (Below w.heap.size w ((w.alloc (.cells #[.slice pa v.n pc, .slice ja v.m jc] 40)).alloc (.cells #[.int .i64 p, .int .i64 a, .int .i64 way] 30)) ∧ Box ((w.alloc (.cells #[.slice pa v.n pc, .slice ja v.m jc] 40)).alloc (.cells #[.int .i64 p, .int .i64 a, .int .i64 way] 30)) w.heap.size 40 #[.slice pa v.n pc, .slice ja v.m jc] ∧ Box ((w.alloc (.cells #[.slice pa v.n pc, .slice ja v.m jc] 40)).alloc (.cells #[.int .i64 p, .int .i64 a, .int .i64 way] 30)) (w.heap.size + 1) 30 #[.int .i64 p, .int .i64 a, .int .i64 way]) := ⟨bel2 _ _ _, (Box.new _ _ _).alloc _, by have := Box.new (w.alloc (.cells #[.slice pa v.n pc, .slice ja v.m jc] 40)) 30 #[.int .i64 p, .int .i64 a, .int .i64 way]; simpa using this⟩
  go_enter Tryz.func33, Tryz.ntmps33
  go_upto_region 1 with fail
  generalize ((w.alloc (.cells #[.slice pa v.n pc, .slice ja v.m jc] 40)).alloc (.cells #[.int .i64 p, .int .i64 a, .int .i64 way] 30)) = V0 at S0 ⊢
  have n0 : V0.cell? ⟨w.heap.size, 0, none⟩ = some (.slice pa v.n pc) := S0.out.2.1.cell 0
  have n1 : V0.cell? ⟨w.heap.size, 1, none⟩ = some (.slice ja v.m jc) := S0.out.2.1.cell 1
  have s0 : V0.cell? ⟨w.heap.size + 1, 0, none⟩ = some (.int .i64 p) := S0.out.2.2.cell 0
  have s1 : V0.cell? ⟨w.heap.size + 1, 1, none⟩ = some (.int .i64 a) := S0.out.2.2.cell 1
  have s2 : V0.cell? ⟨w.heap.size + 1, 2, none⟩ = some (.int .i64 way) := S0.out.2.2.cell 2
  go_wp2_with fail
  refine wp_region_held_drew (S := (fun wx : World => wx.cell? ⟨w.heap.size, 0, none⟩ = some (.slice pa v.n pc) ∧ wx.cell? ⟨w.heap.size, 1, none⟩ = some (.slice ja v.m jc) ∧ wx.cell? ⟨w.heap.size + 1, 0, none⟩ = some (.int .i64 p) ∧ wx.cell? ⟨w.heap.size + 1, 1, none⟩ = some (.int .i64 a) ∧ wx.cell? ⟨w.heap.size + 1, 2, none⟩ = some (.int .i64 way))) (by kernel_rfl) ?_ (fun hHeld => ?_)
  ·
   exact ⟨n0, n1, s0, s1, s2⟩
  refine tk 0 ?_
  refine tk 1 ?_
  refine tk 2 ?_
  refine tk 3 ?_
  refine tk 4 ?_
  refine tk 5 ?_
  refine rl 6 fun K hK => ?_
  go_simp
  refine (l22in53 p 0 (IntKind.i64.wrap ((v.n : Int) - 1)) _).mono ?_
  rintro e w1 ⟨he, hw1⟩
  rw [HWN.out, HI.out] at he
  subst he
  have hw1 := hw1.symm
  subst hw1
  go_wp2_with fail
  refine hK.out _ _ ?_ (fun hHeld6 => ?_)
  ·
   exact hHeld
  clear hK K
  refine tk 7 ?_
  refine tf 8 ?_
  refine tf 9 ?_
  refine tf 10 ?_
  refine tf 11 ?_
  refine tf 12 ?_
  refine tf 13 ?_
  refine tf 14 ?_
  refine tf 15 ?_
  refine tk 16 ?_
  refine tk 17 ?_
  refine tf 18 ?_
  refine tf 19 ?_
  refine tf 20 ?_
  refine tf 21 ?_
  refine tf 22 ?_
  refine tf 23 ?_
  refine tf 24 ?_
  refine tf 25 ?_
  refine tf 26 ?_
  refine tf 27 ?_
  refine tk 28 ?_
  refine tk 29 ?_
  refine wpAnyH_done (by kernel_rfl) ?_ _
  go_wp2_with fail
  go_ret
  exact ⟨by rw [HT.out]; rfl, S0.out.1.drew⟩
 | true =>
  obtain ⟨q, rfl, hq⟩ := inB_nat HI.out
  obtain ⟨b, off, rfl, _, hb, hc⟩ := hP (by omega)
  have HC1 : Hid (b < w.heap.size ∧ w.cell? ⟨b, off + q * 4 + 1, none⟩ = some (.int .i64 (v.P q).ln)) := ⟨hb, (hc q hq).2.1⟩
  have hpi : (q : Int) < (v.n : Int) := by omega
  have hp0 : (0 : Int) ≤ (q : Int) := by omega
  have HQ : Hid ((q : Int).toNat = q) := Int.toNat_natCast q
  obtain ⟨z, HA⟩ : ∃ z, Hid (inB a 0 (v.P q).ln = z) := ⟨_, rfl⟩
  clear hc hP ok hb
  by_cases h1 : way = 1
  ·
   subst h1
   have HT : Hid (R = z) := HR.out.symm.trans (by rw [spotB, HI.out, HQ.out, HA.out]; cases z <;> rfl)
   have S0 : Hid (Below w.heap.size w ((w.alloc (.cells #[.slice (some ⟨b, off, none⟩) v.n pc, .slice ja v.m jc] 40)).alloc (.cells #[.int .i64 (q : Int), .int .i64 a, .int .i64 1] 30)) ∧ Box ((w.alloc (.cells #[.slice (some ⟨b, off, none⟩) v.n pc, .slice ja v.m jc] 40)).alloc (.cells #[.int .i64 (q : Int), .int .i64 a, .int .i64 1] 30)) w.heap.size 40 #[.slice (some ⟨b, off, none⟩) v.n pc, .slice ja v.m jc] ∧ Box ((w.alloc (.cells #[.slice (some ⟨b, off, none⟩) v.n pc, .slice ja v.m jc] 40)).alloc (.cells #[.int .i64 (q : Int), .int .i64 a, .int .i64 1] 30)) (w.heap.size + 1) 30 #[.int .i64 (q : Int), .int .i64 a, .int .i64 1]) := ⟨bel2 _ _ _, (Box.new _ _ _).alloc _, by have := Box.new (w.alloc (.cells #[.slice (some ⟨b, off, none⟩) v.n pc, .slice ja v.m jc] 40)) 30 #[.int .i64 (q : Int), .int .i64 a, .int .i64 1]; simpa using this⟩
   go_enter Tryz.func33, Tryz.ntmps33
   go_upto_region 1 with fail
   generalize ((w.alloc (.cells #[.slice (some ⟨b, off, none⟩) v.n pc, .slice ja v.m jc] 40)).alloc (.cells #[.int .i64 (q : Int), .int .i64 a, .int .i64 1] 30)) = V0 at S0 ⊢
   have c1 : V0.cell? ⟨b, off + q * 4 + 1, none⟩ = some (.int .i64 (v.P q).ln) := cell_keep S0.out.1 HC1.out.1 HC1.out.2
   have n0 : V0.cell? ⟨w.heap.size, 0, none⟩ = some (.slice (some ⟨b, off, none⟩) v.n pc) := S0.out.2.1.cell 0
   have n1 : V0.cell? ⟨w.heap.size, 1, none⟩ = some (.slice ja v.m jc) := S0.out.2.1.cell 1
   have s0 : V0.cell? ⟨w.heap.size + 1, 0, none⟩ = some (.int .i64 (q : Int)) := S0.out.2.2.cell 0
   have s1 : V0.cell? ⟨w.heap.size + 1, 1, none⟩ = some (.int .i64 a) := S0.out.2.2.cell 1
   have s2 : V0.cell? ⟨w.heap.size + 1, 2, none⟩ = some (.int .i64 1) := S0.out.2.2.cell 2
   go_wp2_with fail
   refine wp_region_held_drew (S := (fun wx : World => wx.cell? ⟨w.heap.size, 0, none⟩ = some (.slice (some ⟨b, off, none⟩) v.n pc) ∧ wx.cell? ⟨w.heap.size, 1, none⟩ = some (.slice ja v.m jc) ∧ wx.cell? ⟨w.heap.size + 1, 0, none⟩ = some (.int .i64 (q : Int)) ∧ wx.cell? ⟨w.heap.size + 1, 1, none⟩ = some (.int .i64 a) ∧ wx.cell? ⟨w.heap.size + 1, 2, none⟩ = some (.int .i64 1) ∧ wx.cell? ⟨b, off + q * 4 + 1, none⟩ = some (.int .i64 (v.P q).ln))) (by kernel_rfl) ?_ (fun hHeld => ?_)
   ·
    exact ⟨n0, n1, s0, s1, s2, c1⟩
   refine tk 0 ?_
   refine tk 1 ?_
   refine tk 2 ?_
   refine tk 3 ?_
   refine tk 4 ?_
   refine tk 5 ?_
   refine rl 6 fun K hK => ?_
   go_simp
   refine (l22in53 (q : Int) 0 (IntKind.i64.wrap ((v.n : Int) - 1)) _).mono ?_
   rintro e w1 ⟨he, hw1⟩
   rw [HWN.out, HI.out] at he
   subst he
   have hw1 := hw1.symm
   subst hw1
   go_wp2_with fail
   refine hK.out _ _ ?_ (fun hHeld6 => ?_)
   ·
    exact hHeld
   clear hK K
   refine tk 7 ?_
   refine tk 8 ?_
   refine tk 9 ?_
   refine tk 10 ?_
   refine tk 11 ?_
   refine tf 12 ?_
   refine tf 13 ?_
   refine tf 14 ?_
   refine tk 15 ?_
   refine tk 16 ?_
   refine tk 17 ?_
   refine tk 18 ?_
   refine tk 19 ?_
   refine tk 20 ?_
   refine tk 21 ?_
   refine tk 22 ?_
   refine tk 23 ?_
   refine tk 24 ?_
   refine tk 25 ?_
   refine tk 26 ?_
   refine rl 27 fun K hK => ?_
   go_simp
   refine (l22in53 a 0 (v.P q).ln _).mono ?_
   rintro e w2 ⟨he, hw2⟩
   rw [HA.out] at he
   subst he
   have hw2 := hw2.symm
   subst hw2
   go_wp2_with fail
   refine hK.out _ _ ?_ (fun hHeld27 => ?_)
   ·
    exact hHeld
   clear hK K
   refine tk 28 ?_
   refine tk 29 ?_
   refine wpAnyH_done (by kernel_rfl) ?_ _
   go_wp2_with fail
   go_ret
   exact ⟨by rw [HT.out]; rfl, S0.out.1.drew⟩
  by_cases h2 : way = -1
  ·
   subst h2
   have HT : Hid (R = z) := HR.out.symm.trans (by rw [spotB, HI.out, HQ.out, HA.out]; cases z <;> rfl)
   clear h1
   have S0 : Hid (Below w.heap.size w ((w.alloc (.cells #[.slice (some ⟨b, off, none⟩) v.n pc, .slice ja v.m jc] 40)).alloc (.cells #[.int .i64 (q : Int), .int .i64 a, .int .i64 (-1)] 30)) ∧ Box ((w.alloc (.cells #[.slice (some ⟨b, off, none⟩) v.n pc, .slice ja v.m jc] 40)).alloc (.cells #[.int .i64 (q : Int), .int .i64 a, .int .i64 (-1)] 30)) w.heap.size 40 #[.slice (some ⟨b, off, none⟩) v.n pc, .slice ja v.m jc] ∧ Box ((w.alloc (.cells #[.slice (some ⟨b, off, none⟩) v.n pc, .slice ja v.m jc] 40)).alloc (.cells #[.int .i64 (q : Int), .int .i64 a, .int .i64 (-1)] 30)) (w.heap.size + 1) 30 #[.int .i64 (q : Int), .int .i64 a, .int .i64 (-1)]) := ⟨bel2 _ _ _, (Box.new _ _ _).alloc _, by have := Box.new (w.alloc (.cells #[.slice (some ⟨b, off, none⟩) v.n pc, .slice ja v.m jc] 40)) 30 #[.int .i64 (q : Int), .int .i64 a, .int .i64 (-1)]; simpa using this⟩
   go_enter Tryz.func33, Tryz.ntmps33
   go_upto_region 1 with fail
   generalize ((w.alloc (.cells #[.slice (some ⟨b, off, none⟩) v.n pc, .slice ja v.m jc] 40)).alloc (.cells #[.int .i64 (q : Int), .int .i64 a, .int .i64 (-1)] 30)) = V0 at S0 ⊢
   have c1 : V0.cell? ⟨b, off + q * 4 + 1, none⟩ = some (.int .i64 (v.P q).ln) := cell_keep S0.out.1 HC1.out.1 HC1.out.2
   have n0 : V0.cell? ⟨w.heap.size, 0, none⟩ = some (.slice (some ⟨b, off, none⟩) v.n pc) := S0.out.2.1.cell 0
   have n1 : V0.cell? ⟨w.heap.size, 1, none⟩ = some (.slice ja v.m jc) := S0.out.2.1.cell 1
   have s0 : V0.cell? ⟨w.heap.size + 1, 0, none⟩ = some (.int .i64 (q : Int)) := S0.out.2.2.cell 0
   have s1 : V0.cell? ⟨w.heap.size + 1, 1, none⟩ = some (.int .i64 a) := S0.out.2.2.cell 1
   have s2 : V0.cell? ⟨w.heap.size + 1, 2, none⟩ = some (.int .i64 (-1)) := S0.out.2.2.cell 2
   go_wp2_with fail
   refine wp_region_held_drew (S := (fun wx : World => wx.cell? ⟨w.heap.size, 0, none⟩ = some (.slice (some ⟨b, off, none⟩) v.n pc) ∧ wx.cell? ⟨w.heap.size, 1, none⟩ = some (.slice ja v.m jc) ∧ wx.cell? ⟨w.heap.size + 1, 0, none⟩ = some (.int .i64 (q : Int)) ∧ wx.cell? ⟨w.heap.size + 1, 1, none⟩ = some (.int .i64 a) ∧ wx.cell? ⟨w.heap.size + 1, 2, none⟩ = some (.int .i64 (-1)) ∧ wx.cell? ⟨b, off + q * 4 + 1, none⟩ = some (.int .i64 (v.P q).ln))) (by kernel_rfl) ?_ (fun hHeld => ?_)
   ·
    exact ⟨n0, n1, s0, s1, s2, c1⟩
   refine tk 0 ?_
   refine tk 1 ?_
   refine tk 2 ?_
   refine tk 3 ?_
   refine tk 4 ?_
   refine tk 5 ?_
   refine rl 6 fun K hK => ?_
   go_simp
   refine (l22in53 (q : Int) 0 (IntKind.i64.wrap ((v.n : Int) - 1)) _).mono ?_
   rintro e w1 ⟨he, hw1⟩
   rw [HWN.out, HI.out] at he
   subst he
   have hw1 := hw1.symm
   subst hw1
   go_wp2_with fail
   refine hK.out _ _ ?_ (fun hHeld6 => ?_)
   ·
    exact hHeld
   clear hK K
   refine tk 7 ?_
   refine tk 8 ?_
   refine tk 9 ?_
   refine tk 10 ?_
   refine tk 11 ?_
   refine tk 12 ?_
   refine tk 13 ?_
   refine tk 14 ?_
   refine tk 15 ?_
   refine tk 16 ?_
   refine tk 17 ?_
   refine tk 18 ?_
   refine tk 19 ?_
   refine tk 20 ?_
   refine tk 21 ?_
   refine tk 22 ?_
   refine tk 23 ?_
   refine tk 24 ?_
   refine tk 25 ?_
   refine tk 26 ?_
   refine rl 27 fun K hK => ?_
   go_simp
   refine (l22in53 a 0 (v.P q).ln _).mono ?_
   rintro e w2 ⟨he, hw2⟩
   rw [HA.out] at he
   subst he
   have hw2 := hw2.symm
   subst hw2
   go_wp2_with fail
   refine hK.out _ _ ?_ (fun hHeld27 => ?_)
   ·
    exact hHeld
   clear hK K
   refine tk 28 ?_
   refine tk 29 ?_
   refine wpAnyH_done (by kernel_rfl) ?_ _
   go_wp2_with fail
   go_ret
   exact ⟨by rw [HT.out]; rfl, S0.out.1.drew⟩
  have HT : Hid (R = false) := HR.out.symm.trans (by rw [spotB, HI.out]; simp [h1, h2])
  have h1' : (way == 1) = false := by simpa using h1
  have h2' : (way == -1) = false := by simpa using h2
  clear h1 h2
  have S0 : Hid (Below w.heap.size w ((w.alloc (.cells #[.slice (some ⟨b, off, none⟩) v.n pc, .slice ja v.m jc] 40)).alloc (.cells #[.int .i64 (q : Int), .int .i64 a, .int .i64 way] 30)) ∧ Box ((w.alloc (.cells #[.slice (some ⟨b, off, none⟩) v.n pc, .slice ja v.m jc] 40)).alloc (.cells #[.int .i64 (q : Int), .int .i64 a, .int .i64 way] 30)) w.heap.size 40 #[.slice (some ⟨b, off, none⟩) v.n pc, .slice ja v.m jc] ∧ Box ((w.alloc (.cells #[.slice (some ⟨b, off, none⟩) v.n pc, .slice ja v.m jc] 40)).alloc (.cells #[.int .i64 (q : Int), .int .i64 a, .int .i64 way] 30)) (w.heap.size + 1) 30 #[.int .i64 (q : Int), .int .i64 a, .int .i64 way]) := ⟨bel2 _ _ _, (Box.new _ _ _).alloc _, by have := Box.new (w.alloc (.cells #[.slice (some ⟨b, off, none⟩) v.n pc, .slice ja v.m jc] 40)) 30 #[.int .i64 (q : Int), .int .i64 a, .int .i64 way]; simpa using this⟩
  go_enter Tryz.func33, Tryz.ntmps33
  go_upto_region 1 with fail
  generalize ((w.alloc (.cells #[.slice (some ⟨b, off, none⟩) v.n pc, .slice ja v.m jc] 40)).alloc (.cells #[.int .i64 (q : Int), .int .i64 a, .int .i64 way] 30)) = V0 at S0 ⊢
  have c1 : V0.cell? ⟨b, off + q * 4 + 1, none⟩ = some (.int .i64 (v.P q).ln) := cell_keep S0.out.1 HC1.out.1 HC1.out.2
  have n0 : V0.cell? ⟨w.heap.size, 0, none⟩ = some (.slice (some ⟨b, off, none⟩) v.n pc) := S0.out.2.1.cell 0
  have n1 : V0.cell? ⟨w.heap.size, 1, none⟩ = some (.slice ja v.m jc) := S0.out.2.1.cell 1
  have s0 : V0.cell? ⟨w.heap.size + 1, 0, none⟩ = some (.int .i64 (q : Int)) := S0.out.2.2.cell 0
  have s1 : V0.cell? ⟨w.heap.size + 1, 1, none⟩ = some (.int .i64 a) := S0.out.2.2.cell 1
  have s2 : V0.cell? ⟨w.heap.size + 1, 2, none⟩ = some (.int .i64 way) := S0.out.2.2.cell 2
  go_wp2_with fail
  refine wp_region_held_drew (S := (fun wx : World => wx.cell? ⟨w.heap.size, 0, none⟩ = some (.slice (some ⟨b, off, none⟩) v.n pc) ∧ wx.cell? ⟨w.heap.size, 1, none⟩ = some (.slice ja v.m jc) ∧ wx.cell? ⟨w.heap.size + 1, 0, none⟩ = some (.int .i64 (q : Int)) ∧ wx.cell? ⟨w.heap.size + 1, 1, none⟩ = some (.int .i64 a) ∧ wx.cell? ⟨w.heap.size + 1, 2, none⟩ = some (.int .i64 way) ∧ wx.cell? ⟨b, off + q * 4 + 1, none⟩ = some (.int .i64 (v.P q).ln))) (by kernel_rfl) ?_ (fun hHeld => ?_)
  ·
   exact ⟨n0, n1, s0, s1, s2, c1⟩
  refine tk 0 ?_
  refine tk 1 ?_
  refine tk 2 ?_
  refine tk 3 ?_
  refine tk 4 ?_
  refine tk 5 ?_
  refine rl 6 fun K hK => ?_
  go_simp
  refine (l22in53 (q : Int) 0 (IntKind.i64.wrap ((v.n : Int) - 1)) _).mono ?_
  rintro e w1 ⟨he, hw1⟩
  rw [HWN.out, HI.out] at he
  subst he
  have hw1 := hw1.symm
  subst hw1
  go_wp2_with fail
  refine hK.out _ _ ?_ (fun hHeld6 => ?_)
  ·
   exact hHeld
  clear hK K
  refine tk 7 ?_
  refine tk 8 ?_
  refine tk 9 ?_
  refine tk 10 ?_
  refine tk 11 ?_
  refine tk 12 ?_
  refine tk 13 ?_
  refine tk 14 ?_
  refine tk 15 ?_
  refine tk 16 ?_
  refine tk 17 ?_
  refine tf 18 ?_
  refine tf 19 ?_
  refine tf 20 ?_
  refine tf 21 ?_
  refine tf 22 ?_
  refine tf 23 ?_
  refine tf 24 ?_
  refine tf 25 ?_
  refine tf 26 ?_
  refine tf 27 ?_
  refine tk 28 ?_
  refine tk 29 ?_
  refine wpAnyH_done (by kernel_rfl) ?_ _
  go_wp2_with fail
  go_ret
  exact ⟨by rw [HT.out]; rfl, S0.out.1.drew⟩
end Go.Proofs.YtjhmaofjmalglaaGreat
