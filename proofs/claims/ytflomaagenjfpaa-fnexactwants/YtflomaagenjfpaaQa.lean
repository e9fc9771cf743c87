import Derived.Test.YtflomaagenjfpaaWm
namespace Go.Proofs.Ytflomaagenjfpaa
open Go.RowKit

/-- a list of numbers of one's own, in block og -/
def QAt (w : World) (v : Value) (n : Nat) (F : Nat → Int) (og : Option Nat) : Prop :=
  (v = .slice none 0 0 ∧ n = 0 ∧ og = none) ∨ ∃ g off cap, og = some g ∧ v = .slice (some ⟨g, off, none⟩) n cap ∧ g < w.heap.size ∧ n ≤ cap ∧
    (∀ j, j < cap → (w.cell? ⟨g, off + j, none⟩).isSome = true ∧ w.frozen? ⟨g, off + j, none⟩ = false) ∧ ∀ j, j < n → w.cell? ⟨g, off + j, none⟩ = some (.int .i64 (F j))
theorem QAt.nil (w : World) (F : Nat → Int) : QAt w (.slice none 0 0) 0 F none := .inl ⟨rfl, rfl, rfl⟩
theorem QAt.congr {w : World} {v : Value} {n : Nat} {F G : Nat → Int} {og : Option Nat} (h : QAt w v n F og) (hf : ∀ j, j < n → F j = G j) : QAt w v n G og := by
  rcases h with h | ⟨g, off, cap, h1, h2, h3, h4, h5, h6⟩
  · exact .inl h
  · exact .inr ⟨g, off, cap, h1, h2, h3, h4, h5, fun j hj => by rw [h6 j hj, hf j hj]⟩
theorem QAt.val {w : World} {v : Value} {n : Nat} {F : Nat → Int} {og : Option Nat} (h : QAt w v n F og) : ∃ a cap, v = .slice a n cap := by
  rcases h with ⟨rfl, rfl, _⟩ | ⟨g, off, cap, _, rfl, _⟩
  · exact ⟨none, 0, rfl⟩
  · exact ⟨_, _, rfl⟩
theorem QAt.lt {w : World} {v : Value} {n : Nat} {F : Nat → Int} {g : Nat} (h : QAt w v n F (some g)) : g < w.heap.size := by
  rcases h with ⟨_, _, h⟩ | ⟨g', off, cap, h1, h2, h3, _⟩
  · cases h
  · simp only [Option.some.injEq] at h1
    omega
theorem QAt.keep {w w' : World} {v : Value} {n : Nat} {F : Nat → Int} {og : Option Nat} (h : QAt w v n F og) (hs : w.heap.size ≤ w'.heap.size) (hk : ∀ g, og = some g → w'.heap[g]? = w.heap[g]?) : QAt w' v n F og := by
  rcases h with h | ⟨g, off, cap, h1, h2, h3, h4, h5, h6⟩
  · exact .inl h
  · have e := hk g h1
    refine .inr ⟨g, off, cap, h1, h2, by omega, h4, fun j hj => ?_, fun j hj => ?_⟩
    · rw [World.cell?_of_block (w := w) (a := ⟨g, off + j, none⟩) e, World.frozen?_of_block (w := w) (a := ⟨g, off + j, none⟩) e]
      exact h5 j hj
    · rw [World.cell?_of_block (w := w) (a := ⟨g, off + j, none⟩) e]
      exact h6 j hj
theorem QAt.mono {w w' : World} {v : Value} {n : Nat} {F : Nat → Int} {og : Option Nat} {B : Nat} (h : QAt w v n F og) (hb : Below B w w') (hB : w.heap.size ≤ B) : QAt w' v n F og :=
  h.keep hb.size fun g hg => hb.block g (by subst hg; have := h.lt; omega)
theorem QAt.fr {w w' : World} {v : Value} {n : Nat} {F : Nat → Int} {og : Option Nat} {X : Nat → Prop} (h : QAt w v n F og) (hf : Fr X w w') (hx : ∀ g, og = some g → ¬ X g) : QAt w' v n F og :=
  h.keep hf.size fun g hg => hf.block g (by subst hg; exact h.lt) (hx g hg)
theorem QAt.vs {w : World} {a : Option Addr} {n cap : Nat} {F : Nat → Int} {og : Option Nat} {C : Nat} (h : QAt w (.slice a n cap) n F og) (hC : ∀ g, og = some g → C ≤ g) : VsAt 1 C w a n (oneF F) := by
  intro h0
  rcases h with ⟨_, h1, _⟩ | ⟨g, off, cp, h1, h2, h3, h4, h5, h6⟩
  · omega
  · simp only [Value.slice.injEq] at h2
    refine ⟨g, off, h2.1, hC g h1, h3, fun i hi j hj => ?_⟩
    obtain rfl : j = 0 := by omega
    rw [Nat.mul_one, Nat.add_zero]
    exact h6 i hi
theorem QAt.addr {w : World} {a : Option Addr} {n cap : Nat} {F : Nat → Int} {og : Option Nat} (h : QAt w (.slice a n cap) n F og) (h0 : 0 < n) : ∃ g off, og = some g ∧ a = some ⟨g, off, none⟩ ∧ g < w.heap.size ∧ n ≤ cap ∧
    (∀ j, j < cap → (w.cell? ⟨g, off + j, none⟩).isSome = true ∧ w.frozen? ⟨g, off + j, none⟩ = false) ∧ ∀ j, j < n → w.cell? ⟨g, off + j, none⟩ = some (.int .i64 (F j)) := by
  rcases h with ⟨_, h1, _⟩ | ⟨g, off, cp, h1, h2, h3, h4, h5, h6⟩
  · omega
  · simp only [Value.slice.injEq] at h2
    obtain ⟨rfl, _, rfl⟩ := h2
    exact ⟨g, off, h1, rfl, h3, h4, h5, h6⟩
theorem QAt.of_own {B : Nat} {w : World} {g n cap : Nat} {F : Nat → Int} (h : VOwn B 3 1 w (.slice (some ⟨g, 0, none⟩) n cap) n (oneF F)) : QAt w (.slice (some ⟨g, 0, none⟩) n cap) n F (some g) := by
  rcases h with ⟨h1, _⟩ | ⟨g', cp, cur, h1, h2, h3, h4, h5, h6, h7⟩
  · cases h1
  · simp only [Value.slice.injEq, Option.some.injEq, Addr.mk.injEq] at h1
    obtain ⟨⟨rfl, _⟩, _, rfl⟩ := h1
    refine .inr ⟨g, 0, cap, rfl, rfl, h3.lt, h4, fun j hj => ⟨?_, h3.free _⟩, fun j hj => ?_⟩
    · rw [h3.cell, Nat.zero_add]
      have : j < cur.size := by omega
      simp [this]
    · rw [h3.cell, Nat.zero_add]
      have := h7 j hj 0 (by omega)
      rwa [Nat.mul_one, Nat.add_zero] at this
/-- one of it written over -/
theorem QAt.store {w : World} {n cap g off : Nat} {F : Nat → Int} (h : QAt w (.slice (some ⟨g, off, none⟩) n cap) n F (some g)) {i : Nat} (hi : i < n) (x : Int) : QAt (w.setCell ⟨g, off + i, none⟩ (.int .i64 x)) (.slice (some ⟨g, off, none⟩) n cap) n (updI F i x) (some g) := by
  rcases h with ⟨h1, _⟩ | ⟨g', off', cp, h1, h2, h3, h4, h5, h6⟩
  · cases h1
  · simp only [Value.slice.injEq, Option.some.injEq, Addr.mk.injEq, and_true] at h2
    obtain ⟨⟨rfl, rfl⟩, _, rfl⟩ := h2
    have hc := h6 i hi
    refine .inr ⟨g, off, cap, rfl, rfl, by rw [size_setc]; exact h3, h4, fun j hj => ⟨?_, ?_⟩, fun j hj => ?_⟩
    · by_cases e : j = i
      · subst e
        rw [cset_same hc]
        rfl
      · rw [cset_ne _ _ _ _ _ _ (by omega)]
        exact (h5 j hj).1
    · rw [World.frozen?_setCell]
      exact (h5 j hj).2
    · by_cases e : j = i
      · subst e
        rw [cset_same hc, updI_same]
      · rw [cset_ne _ _ _ _ _ _ (by omega), updI_other _ _ e]
        exact h6 j hj
/-- numbers to be appended -/
def SrcAt (w : World) (xa : Option Addr) (m xc : Nat) (G : Nat → Int) : Prop := (m = 0 ∧ xa = none ∧ xc = 0) ∨ ∃ b off, xa = some ⟨b, off, none⟩ ∧ ∀ j, j < m → w.cell? ⟨b, off + j, none⟩ = some (.int .i64 (G j))
theorem add_lit' (b off k : Nat) : (⟨b, off, none⟩ : Addr).add k = ⟨b, off + k, none⟩ := by
  unfold Addr.add
  split <;> simp_all
theorem int_row (F : Nat → Int) (n : Nat) (w : World) (b off : Nat) (h : ∀ j, j < n → w.cell? ⟨b, off + j, none⟩ = some (.int .i64 (F j))) : ∀ j u, ((List.range n).map fun j => Value.int .i64 (F j))[j]? = some u → w.cell? ⟨b, off + j, none⟩ = some u := by
  intro j u hj
  simp only [List.getElem?_map, Option.map_eq_some_iff] at hj
  obtain ⟨k, hk, rfl⟩ := hj
  have hlt : j < n := by
    by_cases e : j < n
    · exact e
    · rw [List.getElem?_eq_none (by simp; omega)] at hk
      cases hk
  rw [List.getElem?_range hlt] at hk
  simp only [Option.some.injEq] at hk
  subst hk
  exact h j hlt
theorem heap_setCells (b : Nat) : ∀ (vs : List Value) (o : Nat) (w : World) (k : Nat), k ≠ b → (w.setCells b o vs).heap[k]? = w.heap[k]?
  | [], _, _, _, _ => rfl
  | v :: r, o, w, k, hk => by
    rw [World.setCells, heap_setCells b r (o + 1) _ k hk]
    exact Below.heap_setCell w _ v k hk
theorem env_setCells (b : Nat) : ∀ (vs : List Value) (o : Nat) (w : World), (w.setCells b o vs).os = w.os ∧ (w.setCells b o vs).tape = w.tape ∧ (w.setCells b o vs).output = w.output ∧ (w.setCells b o vs).heap.size = w.heap.size
  | [], _, _ => ⟨rfl, rfl, rfl, rfl⟩
  | v :: r, o, w => by
    rw [World.setCells]
    obtain ⟨h1, h2, h3, h4⟩ := env_setCells b r (o + 1) (w.setCell ⟨b, o, none⟩ v)
    exact ⟨h1, h2, h3, h4.trans (size_setc _ _ _)⟩

theorem q_append {w : World} {v : Value} {n : Nat} {F : Nat → Int} {og : Option Nat} (ty : TypeId) (hQ : QAt w v n F og) {xa : Option Addr} {m xc : Nat} {G : Nat → Int} (hx : SrcAt w xa m xc G) (hm : n + m ≤ 1000000) :
    ∃ v' w' og', (Builtin.append_ #[22, 22] ty #[v, .slice xa m xc]).run Try.prog w = .ok v' w' ∧ (∀ F', (∀ j, j < n → F' j = F j) → (∀ j, j < m → F' (n + j) = G j) → QAt w' v' (n + m) F' og') ∧ (og' = og ∨ ∃ g, og' = some g ∧ w.heap.size ≤ g) ∧ w.grownBy w' og := by
  obtain ⟨i, hi, hz, hs, hb⟩ := info_parts infoInt
  have ht := Try.underlying22
  have hml : n + m ≤ maxLen := by simp [maxLen]; omega
  rcases hx with ⟨rfl, rfl, rfl⟩ | ⟨b, bo, rfl, hc⟩
  · refine ⟨v, w, og, ?_, fun F' h1 _ => (hQ.congr fun j hj => (h1 j hj).symm), .inl rfl, ⟨rfl, rfl, rfl, Nat.le_refl _, fun _ _ _ => rfl⟩⟩
    rcases hQ with ⟨rfl, rfl, _⟩ | ⟨g, off, cap, h1, rfl, h3, h4, _⟩
    · simp [Builtin.append_, run_underlying ht, sizeOf, typeInfo, hi, Builtin.lenOf, Builtin.firstCells]
    · simp [Builtin.append_, run_underlying ht, sizeOf, typeInfo, hi, Builtin.lenOf, Builtin.firstCells, h4, storeCells]
  · have hnews := int_row G m w b bo hc
    have hlen : ((List.range m).map fun j => Value.int .i64 (G j)).length = m * 1 := by simp
    have h1c : ∀ u ∈ ((List.range m).map fun j => Value.int .i64 (G j)), u.oneCell' = true := by
      intro u hu
      obtain ⟨j, _, rfl⟩ := List.mem_map.1 hu
      rfl
    rcases hQ with ⟨rfl, rfl, rfl⟩ | ⟨g, off, cap, h1, rfl, h3, h4, h5, h6⟩
    · obtain ⟨v', w', hr, ho, hg, _⟩ := run_append_own (P := Try.prog) w w.heap.size 22 ty 3 i (.int .i64 0) 1 8 ht hi hz hs hb rfl (by decide) (.slice none 0 0) 0 [] (World.ownsRow_nil _ _ _ _) ⟨b, bo, none⟩ m xc _ hlen (fun j u hj => by rw [add_lit']; exact hnews j u hj) h1c (by omega) (by omega) (Nat.le_refl _)
      simp only [List.nil_append] at ho
      obtain ⟨_, hcase⟩ := ho
      rcases hcase with ⟨rfl, h0⟩ | ⟨g, cap, cur, rfl, k1, k2, k3, k4, k5, k6⟩
      · exact ⟨_, w', none, hr, fun F' _ _ => .inl ⟨rfl, h0, rfl⟩, .inl rfl, hg⟩
      · have kb : Box w' g 3 cur := k2
        refine ⟨_, w', some g, hr, fun F' _ h2 => .inr ⟨g, 0, cap, rfl, rfl, kb.lt, k3, fun j hj => ⟨?_, kb.free _⟩, fun j hj => ?_⟩, .inr ⟨g, rfl, k1⟩, hg⟩
        · rw [kb.cell, Nat.zero_add]
          have : j < cur.size := by omega
          simp [this]
        · rw [kb.cell, Nat.zero_add]
          have hj' : j < m := by omega
          have e := congrArg (fun l => l[j]?) k6
          simp only [Nat.zero_add, Nat.mul_one] at e
          rw [List.getElem?_take_of_lt hj', Array.getElem?_toList] at e
          have e2 := h2 j hj'
          rw [Nat.zero_add] at e2
          rw [e, List.getElem?_map, List.getElem?_range hj', e2]
          rfl
    · by_cases hroom : n + m ≤ cap
      · have hr := run_append_room_cells (P := Try.prog) w 22 ty 3 i ht hi g off n cap ⟨b, bo, none⟩ m xc _ (by rw [hs]; exact hlen) (fun j u hj => by rw [add_lit']; exact hnews j u hj) h1c hroom
          (fun j hj => by rw [hs, Nat.mul_one, Nat.add_assoc]; exact (h5 (n + j) (by simp at hj; omega)).1) (fun j hj => by rw [hs, Nat.mul_one, Nat.add_assoc]; exact (h5 (n + j) (by simp at hj; omega)).2)
        rw [hs, Nat.mul_one] at hr
        obtain ⟨e1, e2, e3, e4⟩ := env_setCells g ((List.range m).map fun j => Value.int .i64 (G j)) (off + n) w
        have hin := World.cell?_setCells_in g ((List.range m).map fun j => Value.int .i64 (G j)) (off + n) w (fun j hj => by rw [Nat.add_assoc]; exact (h5 (n + j) (by simp at hj; omega)).1)
        have hin' : ∀ j, j < m → (w.setCells g (off + n) ((List.range m).map fun j => Value.int .i64 (G j))).cell? ⟨g, off + n + j, none⟩ = some (.int .i64 (G j)) := fun j hj => by
          rw [hin j (by simpa using hj)]
          simp
        have hout : ∀ j, j < n ∨ n + m ≤ j → (w.setCells g (off + n) ((List.range m).map fun j => Value.int .i64 (G j))).cell? ⟨g, off + j, none⟩ = w.cell? ⟨g, off + j, none⟩ := fun j hj => World.cell?_setCells_out g _ (off + n) w _ (fun _ _ => by simp; omega)
        refine ⟨_, _, some g, hr, fun F' h1' h2' => .inr ⟨g, off, cap, rfl, rfl, by rw [e4]; exact h3, hroom, fun j hj => ⟨?_, ?_⟩, fun j hj => ?_⟩, .inl h1.symm, ⟨e1, e2, e3, by rw [e4]; exact Nat.le_refl _, fun k _ hk => heap_setCells g _ _ w k fun e => hk (by rw [h1, e])⟩⟩
        · by_cases c : n ≤ j ∧ j < n + m
          · have := hin' (j - n) (by omega)
            rw [show off + n + (j - n) = off + j by omega] at this
            rw [this]
            rfl
          · rw [hout j (by omega)]
            exact (h5 j hj).1
        · rw [World.frozen?_setCells]
          exact (h5 j hj).2
        · by_cases c : n ≤ j
          · have := hin' (j - n) (by omega)
            rw [show off + n + (j - n) = off + j by omega] at this
            rw [this, ← h2' (j - n) (by omega), show n + (j - n) = j by omega]
          · rw [hout j (by omega), h6 j (by omega), h1' j (by omega)]
      · have holds := int_row F n w g off h6
        obtain ⟨v', w', hr, ho, hg⟩ := run_append_arg_grows (P := Try.prog) w 22 ty 3 i (.int .i64 0) 1 8 ht hi hz hs hb rfl (by decide) ⟨g, off, none⟩ n cap ((List.range n).map fun j => Value.int .i64 (F j)) (by simp) (fun j u hj => by rw [add_lit']; exact holds j u hj) ⟨b, bo, none⟩ m xc _ hlen (fun j u hj => by rw [add_lit']; exact hnews j u hj) (by omega) (by omega) (by omega)
        obtain ⟨_, hcase⟩ := ho
        rcases hcase with ⟨rfl, h0⟩ | ⟨g', cap', cur, rfl, k1, k2, k3, k4, k5, k6⟩
        · exact ⟨_, w', none, hr, fun F' _ _ => .inl ⟨rfl, h0, rfl⟩, absurd hroom (by omega), ⟨hg.os, hg.tape, hg.output, hg.size, fun k hk _ => hg.block k hk (by simp)⟩⟩
        · have kb : Box w' g' 3 cur := k2
          refine ⟨_, w', some g', hr, fun F' h1' h2' => .inr ⟨g', 0, cap', rfl, rfl, kb.lt, k3, fun j hj => ⟨?_, kb.free _⟩, fun j hj => ?_⟩, .inr ⟨g', rfl, k1⟩, ⟨hg.os, hg.tape, hg.output, hg.size, fun k hk _ => hg.block k hk (by simp)⟩⟩
          · rw [kb.cell, Nat.zero_add]
            have : j < cur.size := by omega
            simp [this]
          · rw [kb.cell, Nat.zero_add]
            have e := congrArg (fun l => l[j]?) k6
            simp only [Nat.mul_one] at e
            rw [List.getElem?_take_of_lt hj, Array.getElem?_toList] at e
            rw [e]
            by_cases c : j < n
            · rw [List.getElem?_append_left (by simpa using c), List.getElem?_map, List.getElem?_range c, h1' j c]
              rfl
            · rw [List.getElem?_append_right (by simp; omega), List.length_map, List.length_range, List.getElem?_map, List.getElem?_range (by omega), show F' j = G (j - n) by rw [← h2' (j - n) (by omega), show n + (j - n) = j by omega]]
              rfl

/-- for the walk -/
theorem wpList_qapp (w : World) {ops : Array Oper} {rest : List Oper} {o : Oper} {a : Act} {Q : Exit → Act → World → Prop} (hgd : o.guard = none) (s x : Operand)
    (ho : o.op = .call { callee := .builtin .append, args := #[s, x], argTypes := #[22, 22] })
    (v : Value) (n : Nat) (F : Nat → Int) (og : Option Nat) (hs : a.eval s = v) (hQ : QAt w v n F og) (xa : Option Addr) (m xc : Nat) (G : Nat → Int) (hx : a.eval x = .slice xa m xc) (hG : SrcAt w xa m xc G) (hm : n + m ≤ 1000000)
    (h : Halt (∀ v' w' og', (∀ F', (∀ j, j < n → F' j = F j) → (∀ j, j < m → F' (n + j) = G j) → QAt w' v' (n + m) F' og') → (og' = og ∨ ∃ g, og' = some g ∧ w.heap.size ≤ g) → w.grownBy w' og → wpList Try.prog ops Q rest (a.put o.dst v') w')) : wpList Try.prog ops Q (o :: rest) a w := by
  refine wpList_plain hgd fun K hK => ?_
  obtain ⟨v', w', og', hrun, h1, h2, h3⟩ := q_append o.type hQ hG hm
  unfold Oper.wp
  simp [execOp, ho, resolve, invoke, builtin, hs, hx, hrun, Result.andThen]
  exact hK _ _ (h v' w' og' h1 h2 h3)

end Go.Proofs.Ytflomaagenjfpaa
