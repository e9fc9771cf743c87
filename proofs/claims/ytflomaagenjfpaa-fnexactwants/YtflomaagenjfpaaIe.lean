import Derived.Test.YtflomaagenjfpaaIb
import Derived.Test.YtflomaagenjfpaaIc
import Derived.Test.YtflomaagenjfpaaAn
namespace Go.Proofs.Ytflomaagenjfpaa
open Go.RowKit

/-- where things lie -/
structure St (w w5 : World) (wb sb ab qb bb : Nat) : Prop where
  n1 : w.heap.size + 1 < wb
  n2 : w.heap.size + 1 < sb
  n3 : w.heap.size + 1 < ab
  n4 : w.heap.size + 1 < qb
  l1 : wb < bb
  l2 : sb < bb
  l3 : ab < bb
  l4 : qb < bb
  l5 : bb ≤ w5.heap.size
  d1 : wb ≠ sb
  d2 : ab ≠ wb
  d3 : ab ≠ sb
  d4 : qb ≠ ab
  d5 : qb ≠ wb
  d6 : qb ≠ sb
/-- what lies there while they are asked one by one -/
structure Mn (w w5 : World) (r : Rw) (xa fa oa ka : Option Addr) (xc fc oc kc wb sb ab qb bb : Nat) (S W : Nat → Int) (v : Value) (Q : List Int) (og : Option Nat) (wr : World) : Prop where
  ak : Ak w r xa fa oa ka wb sb S W wr
  bx1 : Box wr w.heap.size 29 #[.slice xa r.nn xc, .slice fa r.nf fc, .slice oa r.no oc, .slice ka r.nk kc]
  res : Box wr (w.heap.size + 1) 48 #[.slice none 0 0, .slice none 0 0, .slice none 0 0, .slice none 0 0, .slice none 0 0, .slice none 0 0]
  box : Box wr ab 48 #[.slice xa r.nn xc, .slice fa r.nf fc, .slice oa r.no oc, .slice ka r.nk kc, .slice (some ⟨wb, 0, none⟩) r.nn r.nn, .slice (some ⟨sb, 0, none⟩) r.nn r.nn]
  qbx : Box wr qb 52 #[v]
  ql : QL wr v Q og
  og1 : ∀ g, og = some g → w.heap.size + 1 < g ∧ g ≠ wb ∧ g ≠ sb ∧ g ≠ ab ∧ g ≠ qb
  og2 : ∀ g, og = some g → g < bb ∨ w5.heap.size ≤ g
  kb : ∀ g, bb ≤ g → g < w5.heap.size → wr.heap[g]? = w5.heap[g]?
  sz : w5.heap.size ≤ wr.heap.size
section
variable {w w5 : World} {r : Rw} {xa fa oa ka : Option Addr} {xc fc oc kc wb sb ab qb bb : Nat} {S W : Nat → Int} {v : Value} {Q : List Int} {og : Option Nat} {wr : World}
theorem Mn.mono {w' : World} (h : Mn w w5 r xa fa oa ka xc fc oc kc wb sb ab qb bb S W v Q og wr) (hb : Below wr.heap.size wr w') : Mn w w5 r xa fa oa ka xc fc oc kc wb sb ab qb bb S W v Q og w' := by
  have hl := Nat.le_refl wr.heap.size
  have hz := h.sz
  exact ⟨h.ak.mono hb hl, h.bx1.mono hb hl, h.res.mono hb hl, h.box.mono hb hl, h.qbx.mono hb hl, QAt.mono h.ql hb hl, h.og1, h.og2, fun g h1 h2 => (hb.block g (by omega)).trans (h.kb g h1 h2), Nat.le_trans hz hb.size⟩
theorem Mn.drew (h : Mn w w5 r xa fa oa ka xc fc oc kc wb sb ab qb bb S W v Q og wr) : Mn w w5 r xa fa oa ka xc fc oc kc wb sb ab qb bb S W v Q og wr.drew := h.mono (Below.refl _ _).drew
/-- two lists written over -/
theorem Mn.ask {w' : World} {S' W' : Nat → Int} (h : Mn w w5 r xa fa oa ka xc fc oc kc wb sb ab qb bb S W v Q og wr) (hs : St w w5 wb sb ab qb bb) (ha : Ak w r xa fa oa ka wb sb S' W' w') (hf : Fr (fun b => b = wb ∨ b = sb) wr w') : Mn w w5 r xa fa oa ka xc fc oc kc wb sb ab qb bb S' W' v Q og w' := by
  obtain ⟨n1, n2, n3, n4, l1, l2, l3, l4, l5, d1, d2, d3, d4, d5, d6⟩ := hs
  have hz := h.sz
  refine ⟨ha, h.bx1.fr hf (by omega), h.res.fr hf (by omega), h.box.fr hf (by omega), h.qbx.fr hf (by omega), QAt.fr h.ql hf fun g e => by have := h.og1 g e; omega, h.og1, h.og2, fun g h1 h2 => (hf.block g (by omega) (by omega)).trans (h.kb g h1 h2), Nat.le_trans hz hf.size⟩
/-- the queue's box and block alone -/
theorem Mn.queue {w' : World} {v' : Value} {Q' : List Int} {og' : Option Nat} (h : Mn w w5 r xa fa oa ka xc fc oc kc wb sb ab qb bb S W v Q og wr) (hs : St w w5 wb sb ab qb bb) (hb : Box w' qb 52 #[v']) (hq : QL w' v' Q' og') (ho : og' = og ∨ ∃ g, og' = some g ∧ wr.heap.size ≤ g) (hf : Fr (fun b => b = qb ∨ og = some b) wr w') : Mn w w5 r xa fa oa ka xc fc oc kc wb sb ab qb bb S W v' Q' og' w' := by
  obtain ⟨n1, n2, n3, n4, l1, l2, l3, l4, l5, d1, d2, d3, d4, d5, d6⟩ := hs
  have hz := h.sz
  have hx : ∀ b, b ≠ qb → (∀ g, og = some g → g ≠ b) → ¬ (b = qb ∨ og = some b) := fun b h1 h2 h3 => h3.elim h1 fun e => h2 b e rfl
  have hwl := h.ak.lt
  have hbl := h.box.lt
  have hrl := h.res.lt
  refine ⟨h.ak.fr hf (fun b hb => hx b (by omega) fun g e => by have := h.og1 g e; omega) (hx wb (by omega) fun g e => (h.og1 g e).2.1) (hx sb (by omega) fun g e => (h.og1 g e).2.2.1), h.bx1.fr hf (hx _ (by omega) fun g e => by have := h.og1 g e; omega), h.res.fr hf (hx _ (by omega) fun g e => by have := h.og1 g e; omega), h.box.fr hf (hx _ (by omega) fun g e => (h.og1 g e).2.2.2.1), hb, hq, fun g e => ?_, fun g e => ?_, fun g h1 h2 => ?_, Nat.le_trans hz hf.size⟩
  · rcases ho with rfl | ⟨g', rfl, hge⟩
    · exact h.og1 g e
    · simp only [Option.some.injEq] at e
      omega
  · rcases ho with rfl | ⟨g', rfl, hge⟩
    · exact h.og2 g e
    · simp only [Option.some.injEq] at e
      omega
  · refine (hf.block g (by omega) (hx g (by omega) fun g' e => ?_)).trans (h.kb g h1 h2)
    have := h.og2 g' e
    omega
theorem Mn.put {w' : World} {Q' : List Int} {e : Ending} (h : Mn w w5 r xa fa oa ka xc fc oc kc wb sb ab qb bb S W v Q og wr) (hs : St w w5 wb sb ab qb bb) (hp : PutR wr qb Q' og e w') : e = .returned (.tuple #[]) ∧ ∃ v' og', Mn w w5 r xa fa oa ka xc fc oc kc wb sb ab qb bb S W v' Q' og' w' := by
  obtain ⟨v', og', he, hb, hq, ho, _, hf⟩ := hp
  exact ⟨he, v', og', h.queue hs hb hq ho hf⟩
theorem Mn.take {w' : World} {x : Int} {Q' : List Int} {e : Ending} (h : Mn w w5 r xa fa oa ka xc fc oc kc wb sb ab qb bb S W v Q og wr) (hs : St w w5 wb sb ab qb bb) (hp : TakeR wr qb x Q' og e w') : e = .returned (.int .i64 x) ∧ ∃ v', Mn w w5 r xa fa oa ka xc fc oc kc wb sb ab qb bb S W v' Q' og w' := by
  obtain ⟨v', he, hb, hq, hf⟩ := hp
  exact ⟨he, v', h.queue hs hb hq (.inl rfl) (hf.mono fun k _ hk => .inl hk)⟩
theorem Mn.ogq (h : Mn w w5 r xa fa oa ka xc fc oc kc wb sb ab qb bb S W v Q og wr) : og ≠ some qb := fun e => (h.og1 qb e).2.2.2.2 rfl
end
theorem three (w : World) (a b c : Obj) : (((w.alloc a).alloc b).alloc c).drew.heap[w.heap.size]? = some a ∧ (((w.alloc a).alloc b).alloc c).drew.heap[w.heap.size + 1]? = some b ∧ (((w.alloc a).alloc b).alloc c).drew.heap[w.heap.size + 1 + 1]? = some c ∧ Below w.heap.size w (((w.alloc a).alloc b).alloc c).drew := by
  have h1 : (w.alloc a).heap.size = w.heap.size + 1 := by simp
  have h2 : ((w.alloc a).alloc b).heap.size = w.heap.size + 1 + 1 := by simp
  refine ⟨?_, ?_, ?_, (bel3 w a b c).drew⟩
  · show (((w.alloc a).alloc b).alloc c).heap[w.heap.size]? = _
    rw [Below.heap_alloc _ _ _ (by omega), Below.heap_alloc _ _ _ (by omega), heap_alloc_new]
  · show (((w.alloc a).alloc b).alloc c).heap[w.heap.size + 1]? = _
    rw [Below.heap_alloc _ _ _ (by omega), ← h1, heap_alloc_new]
  · show (((w.alloc a).alloc b).alloc c).heap[w.heap.size + 1 + 1]? = _
    rw [← h2, heap_alloc_new]
theorem QAt.made' {w : World} {b n : Nat} (h : Box w b 3 (mk0 (.int .i64 0) n)) : QAt w (.slice (some ⟨b, 0, none⟩) n n) n (fun _ => 0) (some b) := by
  refine .inr ⟨b, 0, n, rfl, rfl, h.lt, Nat.le_refl _, fun j hj => ⟨?_, h.free _⟩, fun j hj => ?_⟩
  · rw [h.cell, Nat.zero_add, mk0_int n j hj]
    rfl
  · rw [h.cell, Nat.zero_add, mk0_int n j hj]
/-- the first numbers -/
def idL : Nat → List Int
  | 0 => []
  | k + 1 => idL k ++ [(k : Int)]
theorem idL_len : ∀ k, (idL k).length = k
  | 0 => rfl
  | k + 1 => by rw [idL, List.length_append, idL_len k]; rfl
theorem idL_mem (x : Int) : ∀ k, x ∈ idL k ↔ 0 ≤ x ∧ x < (k : Int)
  | 0 => by
    simp only [idL, List.not_mem_nil, false_iff]
    omega
  | k + 1 => by
    rw [idL, List.mem_append, idL_mem x k, List.mem_singleton]
    omega
/-- how long it can go on -/
def Lng (n : Nat) (S : Nat → Int) (Q : List Int) : Nat := roomN n S * (n + 1) + Q.length
theorem Lng_bound {n : Nat} {S : Nat → Int} {Q : List Int} (hl : Low n S) (hn : n ≤ 60) (hq : Q.length ≤ 60) : Lng n S Q ≤ 100000 := by
  have h1 : roomN n S ≤ n * 4 := sumN_bound fun i hi => by have := hl i hi; omega
  have h2 : roomN n S * (n + 1) ≤ 240 * 61 := Nat.mul_le_mul (by omega) (by omega)
  unfold Lng
  omega
theorem Turns.lng_same {r : Rw} (hr : Good r) {S W : Nat → Int} {i : Nat} {Q : List Int} (h : Turns r S W ((i : Int) :: Q)) : Lng r.nn (updI S i (showF r S i)) Q < Lng r.nn S ((i : Int) :: Q) := by
  have hi : i < r.nn := by have := h.din (i : Int) (by simp); omega
  have h1 := roomN_le (h.grow hr hi).2.1
  have h2 := Nat.mul_le_mul_right (r.nn + 1) h1
  unfold Lng
  simp only [List.length_cons]
  omega
theorem Turns.lng_more {r : Rw} (hr : Good r) {S W : Nat → Int} {i : Nat} {Q M : List Int} (h : Turns r S W ((i : Int) :: Q)) (hM : M.length ≤ r.nn) (hne : showF r S i ≠ S i) : Lng r.nn (updI S i (showF r S i)) (Q ++ M) < Lng r.nn S ((i : Int) :: Q) := by
  have hi : i < r.nn := by have := h.din (i : Int) (by simp); omega
  have hg := h.grow hr hi
  have hu := h.up i hi
  have h1 := roomN_lt (k := i) hg.2.1 hi (hg.1 i hi).2 (by rw [updI_same]; omega)
  have h2 := Nat.mul_le_mul_right (r.nn + 1) (Nat.succ_le_of_lt h1)
  rw [Nat.succ_mul] at h2
  unfold Lng
  simp only [List.length_cons, List.length_append]
  omega
/-- what lies there, and how far the asking is -/
def TurnM (w w5 : World) (r : Rw) (xa fa oa ka : Option Addr) (xc fc oc kc wb sb ab qb bb : Nat) (wr : World) (m : Nat) : Prop :=
  ∃ (S W : Nat → Int) (v : Value) (Q : List Int) (og : Option Nat), Turns r S W Q ∧ m = Lng r.nn S Q ∧ m ≤ 100000 ∧ Mn w w5 r xa fa oa ka xc fc oc kc wb sb ab qb bb S W v Q og wr

end Go.Proofs.Ytflomaagenjfpaa
