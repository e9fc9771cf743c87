import Derived.Test.YtpghgdnhfhdgmaaBa
import Derived.ArgAppend
import Derived.Laws.AppendOwnNone
namespace Go.Proofs.Ytpghgdnhfhdgmaa
open Go.RowKit

/-- a row of integers: what a struct of integers holds -/
abbrev Rw := List Int
def cellsL (l : List Rw) : List Value := l.flatten.map (Value.int .i64)
def Wide (c : Nat) (l : List Rw) : Prop := ∀ r, r ∈ l → r.length = c
def fnL (l : List Rw) (i j : Nat) : Int := (l.getD i []).getD j 0

theorem Wide.nil (c : Nat) : Wide c [] := fun _ h => absurd h (List.not_mem_nil)
theorem Wide.app {c : Nat} {l k : List Rw} (h : Wide c l) (h' : Wide c k) : Wide c (l ++ k) := fun r hr => (List.mem_append.1 hr).elim (h r) (h' r)
theorem Wide.one {c : Nat} {r : Rw} (h : r.length = c) : Wide c [r] := fun x hx => by rw [List.mem_singleton.1 hx]; exact h
theorem Wide.left {c : Nat} {l k : List Rw} (h : Wide c (l ++ k)) : Wide c l := fun r hr => h r (List.mem_append.2 (.inl hr))

theorem flat_len {c : Nat} {l : List Rw} (h : Wide c l) : l.flatten.length = l.length * c := by
  induction l with
  | nil => simp
  | cons r l ih =>
    have h1 := h r (by simp)
    have h2 := ih (fun x hx => h x (by simp [hx]))
    simp only [List.flatten_cons, List.length_append, List.length_cons, h1, h2, Nat.add_mul, Nat.one_mul]
    omega
theorem cellsL_len {c : Nat} {l : List Rw} (h : Wide c l) : (cellsL l).length = l.length * c := by rw [cellsL, List.length_map, flat_len h]
theorem cellsL_app (l k : List Rw) : cellsL (l ++ k) = cellsL l ++ cellsL k := by simp [cellsL]
theorem flat_at {c : Nat} {l : List Rw} (h : Wide c l) {i j : Nat} (hi : i < l.length) (hj : j < c) : l.flatten[i * c + j]? = some (fnL l i j) := by
  induction l generalizing i with
  | nil => simp at hi
  | cons r l ih =>
    have h1 := h r (by simp)
    have h2 : Wide c l := fun x hx => h x (by simp [hx])
    cases i with
    | zero =>
      simp only [List.flatten_cons, Nat.zero_mul, Nat.zero_add, fnL, List.getD_cons_zero]
      rw [List.getElem?_append_left (by omega), List.getD_eq_getElem?_getD, List.getElem?_eq_getElem (by omega)]
      rfl
    | succ i =>
      simp only [List.flatten_cons, fnL, List.getD_cons_succ]
      rw [List.getElem?_append_right (by rw [h1, Nat.succ_mul]; omega), h1, show (i + 1) * c + j - c = i * c + j by rw [Nat.succ_mul]; omega]
      exact ih h2 (by simpa using hi)
theorem cellsL_at {c : Nat} {l : List Rw} (h : Wide c l) {i j : Nat} (hi : i < l.length) (hj : j < c) : (cellsL l)[i * c + j]? = some (.int .i64 (fnL l i j)) := by
  rw [cellsL, List.getElem?_map, flat_at h hi hj]; rfl
theorem fnL_row {l : List Rw} {i : Nat} {r : Rw} (h : l[i]? = some r) (j : Nat) : fnL l i j = r.getD j 0 := by simp [fnL, List.getD_eq_getElem?_getD, h]
theorem fnL_left {l k : List Rw} {i : Nat} (h : i < l.length) (j : Nat) : fnL (l ++ k) i j = fnL l i j := by simp [fnL, List.getD_eq_getElem?_getD, List.getElem?_append_left h]
theorem fnL_last (l : List Rw) (r : Rw) (j : Nat) : fnL (l ++ [r]) l.length j = r.getD j 0 := by simp [fnL, List.getD_eq_getElem?_getD]

/-- the slice v reads l -/
def LsAt (c C : Nat) (w : World) (v : Value) (l : List Rw) : Prop := Wide c l ∧ ((v = .slice none 0 0 ∧ l = []) ∨
  ∃ b off cap, v = .slice (some ⟨b, off, none⟩) l.length cap ∧ C ≤ b ∧ b < w.heap.size ∧ ∀ j u, (cellsL l)[j]? = some u → w.cell? ⟨b, off + j, none⟩ = some u)
theorem LsAt.val {c C : Nat} {w : World} {v : Value} {l : List Rw} (h : LsAt c C w v l) : ∃ a cap, v = .slice a l.length cap ∧ NsAt c C w a l.length (fnL l) := by
  obtain ⟨hw, ⟨rfl, rfl⟩ | ⟨b, off, cap, rfl, h1, h2, h3⟩⟩ := h
  · exact ⟨none, 0, rfl, fun h0 => absurd h0 (by simp)⟩
  · exact ⟨_, cap, rfl, fun _ => ⟨b, off, rfl, h1, h2, fun i hi j hj => by rw [Nat.add_assoc]; exact h3 _ _ (cellsL_at hw hi hj)⟩⟩
/-- the slice v is the call's own, of blocks from B on, and holds l -/
def Own (B : Nat) (e : TypeId) (c : Nat) (w : World) (v : Value) (l : List Rw) : Prop := Wide c l ∧ w.ownsRow B e c v l.length (cellsL l)

theorem LsAt.keep {c C C' : Nat} {w w' : World} {v : Value} {l : List Rw} (h : LsAt c C w v l) (hC : C' ≤ C) (hs : w.heap.size ≤ w'.heap.size) (hk : ∀ b, v.ownBlock = some b → w'.heap[b]? = w.heap[b]?) : LsAt c C' w' v l := by
  obtain ⟨hw, h1 | ⟨b, off, cap, rfl, h1, h2, h3⟩⟩ := h
  · exact ⟨hw, .inl h1⟩
  · exact ⟨hw, .inr ⟨b, off, cap, rfl, by omega, by omega, fun j u hj => (World.cell?_of_block (w := w) (hk b rfl)).trans (h3 j u hj)⟩⟩
theorem LsAt.mono {c C C' : Nat} {w w' : World} {v : Value} {l : List Rw} {B : Nat} (h : LsAt c C w v l) (hC : C' ≤ C) (hb : Below B w w') (hB : w.heap.size ≤ B) : LsAt c C' w' v l := by
  refine h.keep hC hb.size fun b hv => hb.block b ?_
  obtain ⟨_, ⟨rfl, _⟩ | ⟨b', off, cap, rfl, h1, h2, h3⟩⟩ := h
  · simp [Value.ownBlock] at hv
  · simp only [Value.ownBlock, Option.some.injEq] at hv
    omega

theorem Own.nil (B : Nat) (e : TypeId) (c : Nat) (w : World) : Own B e c w (.slice none 0 0) [] := ⟨Wide.nil c, by simpa [cellsL] using World.ownsRow_nil w B e c⟩
/-- its shape -/
theorem Own.shape {B : Nat} {e : TypeId} {c : Nat} {w : World} {v : Value} {l : List Rw} (h : Own B e c w v l) :
    (v = .slice none 0 0 ∧ l = []) ∨ ∃ g cap cur, v = .slice (some ⟨g, 0, none⟩) l.length cap ∧ B ≤ g ∧ w.heap[g]? = some (.cells cur e (0, 0)) ∧ l.length ≤ cap ∧ cap ≤ maxLen ∧ cur.size = cap * c ∧ cur.toList.take (l.length * c) = cellsL l := by
  obtain ⟨_, _, ⟨h1, h2⟩ | ⟨g, cap, cur, h1, h2, h3, h4, h5, h6, h7⟩⟩ := h
  · exact .inl ⟨h1, List.length_eq_zero_iff.1 h2⟩
  · exact .inr ⟨g, cap, cur, h1, h2, h3, h4, h5, h6, h7⟩
theorem Own.cells {B : Nat} {e : TypeId} {c : Nat} {w : World} {l : List Rw} {g cap : Nat} (h : Own B e c w (.slice (some ⟨g, 0, none⟩) l.length cap) l) :
    g < w.heap.size ∧ ∀ j u, (cellsL l)[j]? = some u → w.cell? ⟨g, j, none⟩ = some u := by
  rcases h.shape with ⟨h1, _⟩ | ⟨g', cap', cur, h1, h2, h3, h4, h5, h6, h7⟩
  · simp at h1
  · simp only [Value.slice.injEq, Option.some.injEq, Addr.mk.injEq] at h1
    obtain ⟨⟨rfl, _⟩, _, rfl⟩ := h1
    refine ⟨(Array.getElem?_eq_some_iff.1 h3).1, fun j u hj => ?_⟩
    have hl : j < l.length * c := by rw [← cellsL_len h.1]; exact (List.getElem?_eq_some_iff.1 hj).1
    rw [← h7, List.getElem?_take_of_lt hl] at hj
    simp only [World.cell?, h3]
    simpa using hj
theorem Own.ls {B : Nat} {e : TypeId} {c : Nat} {w : World} {v : Value} {l : List Rw} (h : Own B e c w v l) : LsAt c B w v l := by
  refine ⟨h.1, ?_⟩
  rcases h.shape with h1 | ⟨g, cap, cur, rfl, h2, _⟩
  · exact .inl h1
  · exact .inr ⟨g, 0, cap, rfl, h2, h.cells.1, fun j u hj => by rw [Nat.zero_add]; exact h.cells.2 j u hj⟩
theorem Own.val {B : Nat} {e : TypeId} {c : Nat} {w : World} {v : Value} {l : List Rw} (h : Own B e c w v l) : ∃ a cap, v = .slice a l.length cap := by
  obtain ⟨a, cap, h1, _⟩ := h.ls.val
  exact ⟨a, cap, h1⟩
/-- what is owned stays owned where its block has not turned -/
theorem Own.keep {B B' : Nat} {e : TypeId} {c : Nat} {w w' : World} {v : Value} {l : List Rw} (h : Own B e c w v l) (hB : B' ≤ B) (hk : ∀ g, v.ownBlock = some g → w'.heap[g]? = w.heap[g]?) : Own B' e c w' v l := by
  refine ⟨h.1, h.2.1, ?_⟩
  rcases h.shape with ⟨rfl, rfl⟩ | ⟨g, cap, cur, rfl, h2, h3, h4⟩
  · exact .inl ⟨rfl, rfl⟩
  · exact .inr ⟨g, cap, cur, rfl, by omega, by rw [hk g rfl]; exact h3, h4⟩
theorem Own.lt {B : Nat} {e : TypeId} {c : Nat} {w : World} {v : Value} {l : List Rw} (h : Own B e c w v l) {g : Nat} (hg : v.ownBlock = some g) : B ≤ g ∧ g < w.heap.size := by
  rcases h.shape with ⟨rfl, rfl⟩ | ⟨g', cap, cur, rfl, h2, h3, h4⟩
  · simp [Value.ownBlock] at hg
  · simp only [Value.ownBlock, Option.some.injEq] at hg
    subst hg
    exact ⟨h2, (Array.getElem?_eq_some_iff.1 h3).1⟩
theorem Own.mono {B B' : Nat} {e : TypeId} {c : Nat} {w w' : World} {v : Value} {l : List Rw} {N : Nat} (h : Own B e c w v l) (hB : B' ≤ B) (hb : Below N w w') (hN : w.heap.size ≤ N) : Own B' e c w' v l :=
  h.keep hB fun g hg => hb.block g (by have := (h.lt hg).2; omega)
/-- two rows of different kinds of elements are two blocks -/
theorem Own.ne {B B' : Nat} {e e' : TypeId} {c c' : Nat} {w : World} {v v' : Value} {l l' : List Rw} (h : Own B e c w v l) (h' : Own B' e' c' w v' l') (hne : e ≠ e') {g : Nat} (hg : v.ownBlock = some g) : v'.ownBlock ≠ some g := by
  intro hg'
  rcases h.shape with ⟨rfl, rfl⟩ | ⟨g1, cap, cur, rfl, h2, h3, h4⟩
  · simp [Value.ownBlock] at hg
  · rcases h'.shape with ⟨rfl, rfl⟩ | ⟨g2, cap', cur', rfl, k2, k3, k4⟩
    · simp [Value.ownBlock] at hg'
    · simp only [Value.ownBlock, Option.some.injEq] at hg hg'
      subst hg
      subst hg'
      rw [h3] at k3
      simp only [Option.some.injEq, Obj.cells.injEq] at k3
      exact hne k3.2.1

/-- what an append does to memory: it writes into the slice's own spare, or lays a new row -/
structure Appd (w w' : World) (v v' : Value) : Prop where
  fr : w.grownBy w' v.ownBlock
  nb : (∃ g n n' cap, v = .slice (some ⟨g, 0, none⟩) n cap ∧ v' = .slice (some ⟨g, 0, none⟩) n' cap) ∨ (w.grownBy w' none ∧ ∃ g, v'.ownBlock = some g ∧ w.heap.size ≤ g)

theorem one_int (l : List Rw) : ∀ u, u ∈ cellsL l → u.oneCell' = true := fun u hu => by
  obtain ⟨x, _, rfl⟩ := List.mem_map.1 hu
  rfl

/-- the shorter slice of a row that has grown in place holds what it held -/
theorem Own.short {B : Nat} {e : TypeId} {c : Nat} {w : World} {l k : List Rw} {g cap : Nat} (h : Own B e c w (.slice (some ⟨g, 0, none⟩) (l ++ k).length cap) (l ++ k)) : Own B e c w (.slice (some ⟨g, 0, none⟩) l.length cap) l := by
  have hw := h.1.left
  rcases h.shape with ⟨h1, _⟩ | ⟨g', cap', cur, h1, h2, h3, h4, h5, h6, h7⟩
  · simp at h1
  · simp only [Value.slice.injEq, Option.some.injEq, Addr.mk.injEq] at h1
    obtain ⟨⟨rfl, _⟩, _, rfl⟩ := h1
    refine ⟨hw, cellsL_len hw, .inr ⟨g, cap, cur, rfl, h2, h3, by simp at h4; omega, h5, h6, ?_⟩⟩
    have : (cur.toList.take ((l ++ k).length * c)).take (l.length * c) = (cellsL (l ++ k)).take (l.length * c) := by rw [h7]
    rw [List.take_take, cellsL_app, List.take_append_of_le_length (by rw [cellsL_len hw]; exact Nat.le_refl _), Nat.min_eq_left (Nat.mul_le_mul_right c (by simp)), ← cellsL_len hw, List.take_length] at this
    rwa [← cellsL_len hw]

/-- an append of rows to a slice of the call's own, of which shorter slices are still in use -/
theorem wpList_app {P : Program} (w : World) {ops : Array Oper} {rest : List Oper} {o : Oper} {a : Act} {Q : Exit → Act → World → Prop} (hgd : o.guard = none) (s x : Operand) (t : TypeId)
    (ho : o.op = .call { callee := .builtin .append, args := #[s, x], argTypes := #[t, t] })
    (B : Nat) (e : TypeId) (i : TypeInfo) (z : Value) (c bytes : Nat) (ht : P.underlying t = some (.slice e)) (hi : P.info? e = some i) (hz : i.zero = some z)
    (hsize : i.size = c) (hby : i.bytes = bytes) (hzs : z.cells.size = c) (hsz : 0 < c)
    (v : Value) (l : List Rw) (hs : a.eval s = v) (hown : Own B e c w v l)
    (ad : Addr) (m cc : Nat) (news : List Rw) (hx : a.eval x = .slice (some ad) m cc) (hm : news.length = m) (h0 : 0 < m) (hw : Wide c news) (hnews : ∀ j u, (cellsL news)[j]? = some u → w.cell? (ad.add j) = some u)
    (h63 : l.length + m ≤ maxLen) (hbytes : (l.length + m) * bytes ≤ 140737488355328) (hbase : B ≤ w.heap.size)
    (h : ∀ v' w', Own B e c w' v' (l ++ news) → Own B e c w' v l → Appd w w' v v' → wpList P ops Q rest (a.put o.dst v') w') : wpList P ops Q (o :: rest) a w := by
  have hln : (cellsL news).length = m * c := by rw [cellsL_len hw, hm]
  rcases hown.shape with ⟨hv, hl⟩ | ⟨g, cap, cur, hv, h2, h3, h4, h5, h6, h7⟩
  · subst hl
    rw [hv] at hs
    refine wpList_append_grows w hgd s x t ho e i z c bytes ht hi hz hsize hby hzs hsz none 0 0 [] hs (fun _ => ⟨rfl, rfl⟩) (by simp) (fun b hb => by cases hb) ad m cc (cellsL news) hx hln hnews (one_int _) (by omega) (by simpa using h63) (by simpa using hbytes) ?_
    intro v' w' ho' hg'
    have ho2 : Own B e c w' v' ([] ++ news) := ⟨by simpa using hw, by
      have : w'.ownsRow w.heap.size e c v' (0 + m) ([] ++ cellsL news) := ho'
      rw [List.nil_append, Nat.zero_add] at this
      rw [List.nil_append, hm]
      obtain ⟨q1, q2⟩ := this
      refine ⟨q1, ?_⟩
      rcases q2 with q2 | ⟨g, cap, cur, r1, r2, r3⟩
      · exact .inl q2
      · exact .inr ⟨g, cap, cur, r1, by omega, r3⟩⟩
    refine h v' w' ho2 ?_ ⟨?_, .inr ⟨hg', ?_⟩⟩
    · rw [hv]; exact Own.nil _ _ _ _
    · rw [hv]; exact hg'
    · obtain ⟨_, ⟨q1, q2⟩ | ⟨g, cap, cur, r1, r2, r3⟩⟩ := ho'
      · omega
      · exact ⟨g, by rw [r1]; rfl, r2⟩
  · by_cases hc : l.length + m ≤ cap
    · rw [hv] at hs
      refine wpList_append_fits w hgd s x t ho B e i c ht hi hsize g l.length cap (cellsL l) hs (by rw [← hv]; exact hown.2) ad m cc (cellsL news) hx hln hnews (one_int _) hc ?_
      intro w' ho' hg'
      have ho2 : Own B e c w' (.slice (some ⟨g, 0, none⟩) (l ++ news).length cap) (l ++ news) := ⟨hown.1.app hw, by rw [cellsL_app, List.length_append, hm]; exact ho'⟩
      have := h (.slice (some ⟨g, 0, none⟩) (l ++ news).length cap) w' ho2 (by rw [hv]; exact ho2.short) ⟨by rw [hv]; exact hg', .inl ⟨g, _, _, cap, hv, rfl⟩⟩
      rwa [List.length_append, hm] at this
    · rw [hv] at hs
      have hcs := (show Own B e c w (.slice (some ⟨g, 0, none⟩) l.length cap) l by rw [← hv]; exact hown).cells
      refine wpList_append_grows w hgd s x t ho e i z c bytes ht hi hz hsize hby hzs hsz (some ⟨g, 0, none⟩) l.length cap (cellsL l) hs (fun q => by cases q) (cellsL_len hown.1) (fun b hb j u hj => ?_) ad m cc (cellsL news) hx hln hnews (one_int _) (by omega) h63 hbytes ?_
      · simp only [Option.some.injEq] at hb
        subst hb
        have h9 := hcs.2 j u hj
        by_cases hj0 : j = 0
        · subst hj0; simpa [Addr.add] using h9
        · simpa [Addr.add, hj0] using h9
      · intro v' w' ho' hg'
        have ho2 : Own B e c w' v' (l ++ news) := ⟨hown.1.app hw, by
          rw [cellsL_app, List.length_append, hm]
          obtain ⟨q1, q2⟩ := ho'
          refine ⟨q1, ?_⟩
          rcases q2 with q2 | ⟨g, cap, cur, r1, r2, r3⟩
          · exact .inl q2
          · exact .inr ⟨g, cap, cur, r1, by omega, r3⟩⟩
        refine h v' w' ho2 (hown.keep (Nat.le_refl _) fun g' hg1 => hg'.block g' ((hown.lt hg1).2) (by simp)) ⟨⟨hg'.os, hg'.tape, hg'.output, hg'.size, fun k hk _ => hg'.block k hk (by simp)⟩, .inr ⟨hg', ?_⟩⟩
        obtain ⟨_, ⟨q1, q2⟩ | ⟨g, cap, cur, r1, r2, r3⟩⟩ := ho'
        · omega
        · exact ⟨g, by rw [r1]; rfl, r2⟩

/-- what an append of rows to a slice of the call's own yields -/
theorem run_app {P : Program} (w : World) (t ty : TypeId)
    (B : Nat) (e : TypeId) (i : TypeInfo) (z : Value) (c bytes : Nat) (ht : P.underlying t = some (.slice e)) (hi : P.info? e = some i) (hz : i.zero = some z)
    (hsize : i.size = c) (hby : i.bytes = bytes) (hzs : z.cells.size = c) (hsz : 0 < c)
    (v : Value) (l : List Rw) (hown : Own B e c w v l)
    (ad : Addr) (m cc : Nat) (news : List Rw) (hm : news.length = m) (h0 : 0 < m) (hw : Wide c news) (hnews : ∀ j u, (cellsL news)[j]? = some u → w.cell? (ad.add j) = some u)
    (h63 : l.length + m ≤ maxLen) (hbytes : (l.length + m) * bytes ≤ 140737488355328) (hbase : B ≤ w.heap.size) :
    ∃ v' w', (Builtin.append_ #[t, t] ty #[v, .slice (some ad) m cc]).run P w = .ok v' w' ∧ Own B e c w' v' (l ++ news) ∧ Own B e c w' v l ∧ Appd w w' v v' := by
  have hln : (cellsL news).length = m * c := by rw [cellsL_len hw, hm]
  rcases hown.shape with ⟨hv, hl⟩ | ⟨g, cap, cur, hv, h2, h3, h4, h5, h6, h7⟩
  · subst hl
    subst hv
    obtain ⟨v', w', hrun, ho', hg', _⟩ := run_append_own (P := P) w w.heap.size t ty e i z c bytes ht hi hz hsize hby hzs hsz (.slice none 0 0) 0 [] (World.ownsRow_nil w _ e c) ad m cc (cellsL news) hln hnews (one_int _) (by simpa using h63) (by simpa using hbytes) (Nat.le_refl _)
    have ho2 : Own B e c w' v' ([] ++ news) := ⟨by simpa using hw, by
      have : w'.ownsRow w.heap.size e c v' (0 + m) ([] ++ cellsL news) := ho'
      rw [List.nil_append, Nat.zero_add] at this
      rw [List.nil_append, hm]
      obtain ⟨q1, q2⟩ := this
      refine ⟨q1, ?_⟩
      rcases q2 with q2 | ⟨g, cap, cur, r1, r2, r3⟩
      · exact .inl q2
      · exact .inr ⟨g, cap, cur, r1, by omega, r3⟩⟩
    refine ⟨v', w', hrun, ho2, Own.nil _ _ _ _, hg', .inr ⟨hg', ?_⟩⟩
    obtain ⟨_, ⟨q1, q2⟩ | ⟨g, cap, cur, r1, r2, r3⟩⟩ := ho'
    · omega
    · exact ⟨g, by rw [r1]; rfl, r2⟩
  · subst hv
    by_cases hc : l.length + m ≤ cap
    · obtain ⟨w', hrun, ho', hg'⟩ := run_append_fits (P := P) w B t ty e i c ht hi hsize g l.length cap (cellsL l) hown.2 ad m cc (cellsL news) hln hnews (one_int _) hc
      have ho2 : Own B e c w' (.slice (some ⟨g, 0, none⟩) (l ++ news).length cap) (l ++ news) := ⟨hown.1.app hw, by rw [cellsL_app, List.length_append, hm]; exact ho'⟩
      refine ⟨.slice (some ⟨g, 0, none⟩) (l ++ news).length cap, w', by rw [List.length_append, hm]; exact hrun, ho2, ho2.short, hg', .inl ⟨g, _, _, cap, rfl, rfl⟩⟩
    · have hcs := hown.cells
      obtain ⟨v', w', hrun, ho', hg'⟩ := run_append_arg_grows (P := P) w t ty e i z c bytes ht hi hz hsize hby hzs hsz ⟨g, 0, none⟩ l.length cap (cellsL l) (cellsL_len hown.1) (fun j u hj => by
        have h9 := hcs.2 j u hj
        by_cases hj0 : j = 0
        · subst hj0; simpa [Addr.add] using h9
        · simpa [Addr.add, hj0] using h9) ad m cc (cellsL news) hln hnews (by omega) h63 hbytes
      have ho2 : Own B e c w' v' (l ++ news) := ⟨hown.1.app hw, by
        rw [cellsL_app, List.length_append, hm]
        obtain ⟨q1, q2⟩ := ho'
        refine ⟨q1, ?_⟩
        rcases q2 with q2 | ⟨g, cap, cur, r1, r2, r3⟩
        · exact .inl q2
        · exact .inr ⟨g, cap, cur, r1, by omega, r3⟩⟩
      refine ⟨v', w', hrun, ho2, hown.keep (Nat.le_refl _) fun g' hg1 => hg'.block g' ((hown.lt hg1).2) (by simp), ⟨hg'.os, hg'.tape, hg'.output, hg'.size, fun k hk _ => hg'.block k hk (by simp)⟩, .inr ⟨hg', ?_⟩⟩
      obtain ⟨_, ⟨q1, q2⟩ | ⟨g, cap, cur, r1, r2, r3⟩⟩ := ho'
      · omega
      · exact ⟨g, by rw [r1]; rfl, r2⟩

/-- the same, as one step of a region that draws its order -/
theorem step_app {P : Program} {ops : Array Oper} {o : Oper} {a : Act} {w : World} {K : Act → World → Prop} {Q : Exit → Act → World → Prop} {E : Prop} (hgd : o.guard = none) (s x : Operand) (t : TypeId)
    (ho : o.op = .call { callee := .builtin .append, args := #[s, x], argTypes := #[t, t] })
    (B : Nat) (e : TypeId) (i : TypeInfo) (z : Value) (c bytes : Nat) (ht : P.underlying t = some (.slice e)) (hi : P.info? e = some i) (hz : i.zero = some z)
    (hsize : i.size = c) (hby : i.bytes = bytes) (hzs : z.cells.size = c) (hsz : 0 < c)
    (v : Value) (l : List Rw) (hs : a.eval s = v) (hown : Own B e c w v l)
    (ad : Addr) (m cc : Nat) (news : List Rw) (hx : a.eval x = .slice (some ad) m cc) (hm : news.length = m) (h0 : 0 < m) (hw : Wide c news) (hnews : ∀ j u, (cellsL news)[j]? = some u → w.cell? (ad.add j) = some u)
    (h63 : l.length + m ≤ maxLen) (hbytes : (l.length + m) * bytes ≤ 140737488355328) (hbase : B ≤ w.heap.size)
    (h : ∀ v' w', Own B e c w' v' (l ++ news) → Own B e c w' v l → Appd w w' v v' → K (a.put o.dst v') w') :
    if Region.wanted o (yielded ops a.tmps) = true then Oper.wp P o a w K Q else E := by
  have hwt : Region.wanted o (yielded ops a.tmps) = true := by simp [Region.wanted, hgd]
  rw [if_pos hwt]
  obtain ⟨v', w', hrun, r1, r2, r3⟩ := run_app (P := P) w t o.type B e i z c bytes ht hi hz hsize hby hzs hsz v l hown ad m cc news hm h0 hw hnews h63 hbytes hbase
  unfold Oper.wp
  simp [execOp, ho, resolve, invoke, builtin, hs, hx, hrun, Result.andThen]
  exact h v' w' r1 r2 r3

/-- a goal at which the walk halts -/
def Halt (p : Prop) : Prop := p
theorem Halt.mk {p : Prop} (h : p) : Halt p := h

/-- an append of a whole list, whatever it is, to a row of the call's own -/
theorem wpList_apps {P : Program} (w : World) {ops : Array Oper} {rest : List Oper} {o : Oper} {a : Act} {Q : Exit → Act → World → Prop} (hgd : o.guard = none) (s x : Operand) (t : TypeId)
    (ho : o.op = .call { callee := .builtin .append, args := #[s, x], argTypes := #[t, t] })
    (B : Nat) (e : TypeId) (i : TypeInfo) (z : Value) (c bytes : Nat) (ht : P.underlying t = some (.slice e)) (hi : P.info? e = some i) (hz : i.zero = some z)
    (hsize : i.size = c) (hby : i.bytes = bytes) (hzs : z.cells.size = c) (hsz : 0 < c)
    (v : Value) (l : List Rw) (hs : a.eval s = v) (hown : Own B e c w v l)
    (src : Value) (k : List Rw) (hx : a.eval x = src) (hsrc : LsAt c 0 w src k)
    (h63 : l.length + k.length ≤ maxLen) (hbytes : (l.length + k.length) * bytes ≤ 140737488355328) (hbase : B ≤ w.heap.size)
    (h : ∀ v' w', Own B e c w' v' (l ++ k) → w.grownBy w' v.ownBlock → wpList P ops Q rest (a.put o.dst v') w') : wpList P ops Q (o :: rest) a w := by
  obtain ⟨hw, ⟨rfl, rfl⟩ | ⟨b, off, cap, rfl, h1, h2, h3⟩⟩ := hsrc
  · exact wpList_append_own_none hgd s x t ho B e i c ht hi v l.length (cellsL l) hs hown.2 hx (h v w (by simpa using hown) (World.grownBy.refl w _))
  · refine wpList_append_own w hgd s x t ho B e i z c bytes ht hi hz hsize hby hzs hsz v l.length (cellsL l) hs hown.2 ⟨b, off, none⟩ k.length cap (cellsL k) hx (cellsL_len hw) (fun j u hj => ?_) (one_int _) h63 hbytes hbase ?_
    · have h9 := h3 j u hj
      by_cases hj0 : j = 0
      · subst hj0; simpa [Addr.add] using h9
      · simpa [Addr.add, hj0] using h9
    · intro v' w' ho' hg' _
      exact h v' w' ⟨hown.1.app hw, by rw [cellsL_app, List.length_append]; exact ho'⟩ hg'

/-- the two laws, at which the walk halts -/
theorem wpList_appsH {P : Program} (w : World) {ops : Array Oper} {rest : List Oper} {o : Oper} {a : Act} {Q : Exit → Act → World → Prop} (hgd : o.guard = none) (s x : Operand) (t : TypeId)
    (ho : o.op = .call { callee := .builtin .append, args := #[s, x], argTypes := #[t, t] })
    (B : Nat) (e : TypeId) (i : TypeInfo) (z : Value) (c bytes : Nat) (ht : P.underlying t = some (.slice e)) (hi : P.info? e = some i) (hz : i.zero = some z)
    (hsize : i.size = c) (hby : i.bytes = bytes) (hzs : z.cells.size = c) (hsz : 0 < c)
    (v : Value) (l : List Rw) (hs : a.eval s = v) (hown : Own B e c w v l)
    (src : Value) (k : List Rw) (hx : a.eval x = src) (hsrc : LsAt c 0 w src k)
    (h63 : l.length + k.length ≤ maxLen) (hbytes : (l.length + k.length) * bytes ≤ 140737488355328) (hbase : B ≤ w.heap.size)
    (h : Halt (∀ v' w', Own B e c w' v' (l ++ k) → w.grownBy w' v.ownBlock → wpList P ops Q rest (a.put o.dst v') w')) : wpList P ops Q (o :: rest) a w :=
  wpList_apps w hgd s x t ho B e i z c bytes ht hi hz hsize hby hzs hsz v l hs hown src k hx hsrc h63 hbytes hbase h
theorem wpList_appH {P : Program} (w : World) {ops : Array Oper} {rest : List Oper} {o : Oper} {a : Act} {Q : Exit → Act → World → Prop} (hgd : o.guard = none) (s x : Operand) (t : TypeId)
    (ho : o.op = .call { callee := .builtin .append, args := #[s, x], argTypes := #[t, t] })
    (B : Nat) (e : TypeId) (i : TypeInfo) (z : Value) (c bytes : Nat) (ht : P.underlying t = some (.slice e)) (hi : P.info? e = some i) (hz : i.zero = some z)
    (hsize : i.size = c) (hby : i.bytes = bytes) (hzs : z.cells.size = c) (hsz : 0 < c)
    (v : Value) (l : List Rw) (hs : a.eval s = v) (hown : Own B e c w v l)
    (ad : Addr) (m cc : Nat) (news : List Rw) (hx : a.eval x = .slice (some ad) m cc) (hm : news.length = m) (h0 : 0 < m) (hw : Wide c news) (hnews : ∀ j u, (cellsL news)[j]? = some u → w.cell? (ad.add j) = some u)
    (h63 : l.length + m ≤ maxLen) (hbytes : (l.length + m) * bytes ≤ 140737488355328) (hbase : B ≤ w.heap.size)
    (h : Halt (∀ v' w', Own B e c w' v' (l ++ news) → Own B e c w' v l → Appd w w' v v' → wpList P ops Q rest (a.put o.dst v') w')) : wpList P ops Q (o :: rest) a w :=
  wpList_app w hgd s x t ho B e i z c bytes ht hi hz hsize hby hzs hsz v l hs hown ad m cc news hx hm h0 hw hnews h63 hbytes hbase h

end Go.Proofs.Ytpghgdnhfhdgmaa
