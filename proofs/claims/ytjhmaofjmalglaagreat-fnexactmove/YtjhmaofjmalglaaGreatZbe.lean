import Derived.Test.YtjhmaofjmalglaaGreatZap
import Derived.ArgAppend
import Derived.Laws.AppendOwnNone
import Derived.Lib.AppendZerosOnto
import Derived.Lib.AppendZeros
import Derived.Lib.SliceRun
namespace Go.Proofs.YtjhmaofjmalglaaGreat
open Go.RowKit Go.Lib
abbrev intF (K : Nat → Nat → Int) (i j : Nat) : Value := .int .i64 (K i j)
theorem Box.grown {w w' : World} {b : Nat} {T : TypeId} {vs : Array Value} {row : Option Nat} (h : Box w b T vs) (hg : w.grownBy w' row) (hr : row ≠ some b) : Box w' b T vs := h.keep (hg.block b h.lt (fun e => hr e.symm))
def Halt (p : Prop) : Prop := p
theorem Halt.mk {p : Prop} (h : p) : Halt p := h
def VsAt (c C : Nat) (w : World) (a : Option Addr) (n : Nat) (F : Nat → Nat → Value) : Prop :=
 0 < n → ∃ b off, a = some ⟨b, off, none⟩ ∧ C ≤ b ∧ b < w.heap.size ∧ ∀ i, i < n → ∀ j, j < c → w.cell? ⟨b, off + i * c + j, none⟩ = some (F i j)
theorem VsAt.keep {c C C' : Nat} {w w' : World} {a : Option Addr} {n : Nat} {F : Nat → Nat → Value} (h : VsAt c C w a n F) (hC : C' ≤ C) (hs : w.heap.size ≤ w'.heap.size)
  (hk : ∀ b, C ≤ b → b < w.heap.size → w'.heap[b]? = w.heap[b]?) : VsAt c C' w' a n F := by
 intro h0
 obtain ⟨b, off, ha, hge, hlt, hc⟩ := h h0
 exact ⟨b, off, ha, by omega, by omega, fun i hi j hj => (World.cell?_of_block (w := w) (hk b hge hlt)).trans (hc i hi j hj)⟩
theorem VsAt.mono {c C C' : Nat} {w w' : World} {a : Option Addr} {n : Nat} {F : Nat → Nat → Value} {B : Nat} (h : VsAt c C w a n F) (hC : C' ≤ C) (hb : Below B w w') (hB : w.heap.size ≤ B) : VsAt c C' w' a n F :=
 h.keep hC hb.size fun b _ hlt => hb.block b (by omega)
theorem VsAt.le {c C C' : Nat} {w : World} {a : Option Addr} {n : Nat} {F : Nat → Nat → Value} (h : VsAt c C w a n F) (hC : C' ≤ C) : VsAt c C' w a n F := h.keep hC nr fun _ _ _ => rfl
theorem VsAt.drew {c C : Nat} {w : World} {a : Option Addr} {n : Nat} {F : Nat → Nat → Value} (h : VsAt c C w a n F) : VsAt c C w.drew a n F := h
def vcells (c n : Nat) (F : Nat → Nat → Value) : List Value := (List.range n).flatMap fun i => (List.range c).map (F i)
theorem vcells_succ (c n : Nat) (F : Nat → Nat → Value) : vcells c (n + 1) F = vcells c n F ++ (List.range c).map (F n) := by simp [vcells, List.range_succ]
theorem vcells_len (c n : Nat) (F : Nat → Nat → Value) : (vcells c n F).length = n * c := by
 induction n with
 | zero => simp [vcells]
 | succ n ih => rw [vcells_succ, List.length_append, ih, Nat.succ_mul]; simp
theorem vcells_at {c n : Nat} {F : Nat → Nat → Value} {i j : Nat} (hi : i < n) (hj : j < c) : (vcells c n F)[i * c + j]? = some (F i j) := by
 induction n with
 | zero => omega
 | succ n ih =>
  rw [vcells_succ]
  by_cases h : i < n
  ·
   have : i * c + j < n * c := by
    have h1 := Nat.mul_le_mul_right c (show i + 1 ≤ n by omega)
    rw [Nat.succ_mul] at h1
    omega
   rw [List.getElem?_append_left (by rw [vcells_len]; exact this)]
   exact ih h
  ·
   obtain rfl : i = n := by omega
   rw [List.getElem?_append_right (by rw [vcells_len]; omega), vcells_len, show i * c + j - i * c = j by omega]
   simp [hj]
theorem vcells_spot {c n : Nat} {k : Nat} (hk : k < n * c) : k / c < n ∧ k % c < c ∧ k / c * c + k % c = k := by
 have hc : 0 < c := Nat.pos_of_ne_zero fun e => by subst e; simp at hk
 exact ⟨(Nat.div_lt_iff_lt_mul hc).2 hk, Nat.mod_lt _ hc, by rw [Nat.mul_comm]; exact Nat.div_add_mod k c⟩
theorem vcells_congr {c n : Nat} {F G : Nat → Nat → Value} (h : ∀ i, i < n → ∀ j, j < c → F i j = G i j) : vcells c n F = vcells c n G := by
 refine List.ext_getElem? fun k => ?_
 by_cases hk : k < n * c
 ·
  obtain ⟨h1, h2, h3⟩ := vcells_spot hk
  rw [← h3, vcells_at h1 h2, vcells_at h1 h2, h _ h1 _ h2]
 ·
  rw [List.getElem?_eq_none (by rw [vcells_len]; omega), List.getElem?_eq_none (by rw [vcells_len]; omega)]
def VOwn (B : Nat) (e : TypeId) (c : Nat) (w : World) (v : Value) (n : Nat) (F : Nat → Nat → Value) : Prop :=
 (v = .slice none 0 0 ∧ n = 0) ∨ ∃ g cap cur, v = .slice (some ⟨g, 0, none⟩) n cap ∧ B ≤ g ∧ Box w g e cur ∧ n ≤ cap ∧ cap ≤ maxLen ∧ cur.size = cap * c ∧ ∀ i, i < n → ∀ j, j < c → cur[i * c + j]? = some (F i j)
theorem VOwn.nil (B : Nat) (e : TypeId) (c : Nat) (w : World) (F : Nat → Nat → Value) : VOwn B e c w (.slice none 0 0) 0 F := .inl ⟨rfl, rfl⟩
theorem VOwn.congr {B : Nat} {e : TypeId} {c : Nat} {w : World} {v : Value} {n : Nat} {F G : Nat → Nat → Value} (h : VOwn B e c w v n F) (hf : ∀ i, i < n → ∀ j, j < c → F i j = G i j) : VOwn B e c w v n G := by
 rcases h with h | ⟨g, cap, cur, h1, h2, h3, h4, h5, h6, h7⟩
 ·
  exact .inl h
 ·
  exact .inr ⟨g, cap, cur, h1, h2, h3, h4, h5, h6, fun i hi j hj => by rw [h7 i hi j hj, hf i hi j hj]⟩
theorem VOwn.val {B : Nat} {e : TypeId} {c : Nat} {w : World} {v : Value} {n : Nat} {F : Nat → Nat → Value} (h : VOwn B e c w v n F) : ∃ a cap, v = .slice a n cap := by
 rcases h with ⟨rfl, rfl⟩ | ⟨g, cap, cur, rfl, _⟩
 ·
  exact ⟨none, 0, rfl⟩
 ·
  exact ⟨_, _, rfl⟩
theorem VOwn.vs {B : Nat} {e : TypeId} {c : Nat} {w : World} {a : Option Addr} {cap : Nat} {n : Nat} {F : Nat → Nat → Value} (h : VOwn B e c w (.slice a n cap) n F) : VsAt c B w a n F := by
 intro h0
 rcases h with ⟨h1, rfl⟩ | ⟨g, cp, cur, h1, h2, h3, h4, h5, h6, h7⟩
 ·
  omega
 ·
  simp only [Value.slice.injEq] at h1
  exact ⟨g, 0, h1.1, h2, h3.lt, fun i hi j hj => by rw [h3.cell, Nat.zero_add, h7 i hi j hj]⟩
theorem VOwn.lt {B : Nat} {e : TypeId} {c : Nat} {w : World} {v : Value} {n : Nat} {F : Nat → Nat → Value} (h : VOwn B e c w v n F) {g : Nat} (hg : v.ownBlock = some g) : B ≤ g ∧ g < w.heap.size := by
 rcases h with ⟨rfl, rfl⟩ | ⟨g', cap, cur, rfl, h2, h3, _⟩
 ·
  simp [Value.ownBlock] at hg
 ·
  simp only [Value.ownBlock, Option.some.injEq] at hg
  subst hg
  exact ⟨h2, h3.lt⟩
theorem VOwn.keep {B B' : Nat} {e : TypeId} {c : Nat} {w w' : World} {v : Value} {n : Nat} {F : Nat → Nat → Value} (h : VOwn B e c w v n F) (hB : B' ≤ B) (hk : ∀ g, v.ownBlock = some g → w'.heap[g]? = w.heap[g]?) : VOwn B' e c w' v n F := by
 rcases h with h | ⟨g, cap, cur, rfl, h2, h3, h4⟩
 ·
  exact .inl h
 ·
  exact .inr ⟨g, cap, cur, rfl, by omega, h3.keep (hk g rfl), h4⟩
theorem VOwn.mono {B B' : Nat} {e : TypeId} {c : Nat} {w w' : World} {v : Value} {n : Nat} {F : Nat → Nat → Value} {M : Nat} (h : VOwn B e c w v n F) (hB : B' ≤ B) (hb : Below M w w') (hM : w.heap.size ≤ M) : VOwn B' e c w' v n F :=
 h.keep hB fun g hg => hb.block g (by have := (h.lt hg).2; omega)
theorem VOwn.fr {B : Nat} {e : TypeId} {c : Nat} {w w' : World} {v : Value} {n : Nat} {F : Nat → Nat → Value} {X : Nat → Prop} (h : VOwn B e c w v n F) (hf : Fr X w w') (hx : ∀ g, v.ownBlock = some g → ¬ X g) : VOwn B e c w' v n F :=
 h.keep nr fun g hg => hf.block g (h.lt hg).2 (hx g hg)
theorem VOwn.alloc {B : Nat} {e : TypeId} {c : Nat} {w : World} {v : Value} {n : Nat} {F : Nat → Nat → Value} (h : VOwn B e c w v n F) (o : Obj) : VOwn B e c (w.alloc o) v n F := h.keep nr fun g hg => Below.heap_alloc w o g (h.lt hg).2
theorem VOwn.off {B : Nat} {e : TypeId} {c : Nat} {w : World} {v : Value} {n : Nat} {F : Nat → Nat → Value} (h : VOwn B e c w v n F) {q : Nat} {T : TypeId} {vs : Array Value} (hb : Box w q T vs) (hT : T ≠ e) {g : Nat} (hg : v.ownBlock = some g) : g ≠ q := by
 intro e'
 rcases h with ⟨rfl, rfl⟩ | ⟨g', cap, cur, rfl, h2, h3, h4⟩
 ·
  simp [Value.ownBlock] at hg
 ·
  simp only [Value.ownBlock, Option.some.injEq] at hg
  subst hg
  subst e'
  have hb' : w.heap[g']? = some (.cells vs T (0, 0)) := hb
  have h3' : w.heap[g']? = some (.cells cur e (0, 0)) := h3
  rw [h3'] at hb'
  simp only [Option.some.injEq, Obj.cells.injEq] at hb'
  exact hT hb'.2.1.symm
theorem VOwn.set {B : Nat} {e : TypeId} {c : Nat} {w : World} {v : Value} {n : Nat} {F : Nat → Nat → Value} (h : VOwn B e c w v n F) {q : Nat} {T : TypeId} {vs : Array Value} (hb : Box w q T vs) (hT : T ≠ e) (j : Nat) (u : Value) : VOwn B e c (w.setCell ⟨q, j, none⟩ u) v n F :=
 h.keep nr fun g hg => Below.heap_setCell w _ u g (h.off hb hT hg)
theorem VOwn.row {B : Nat} {e : TypeId} {c : Nat} {w : World} {v : Value} {n : Nat} {F : Nat → Nat → Value} (h : VOwn B e c w v n F) : w.ownsRow B e c v n (vcells c n F) := by
 refine ⟨vcells_len _ _ _, ?_⟩
 rcases h with h | ⟨g, cap, cur, h1, h2, h3, h4, h5, h6, h7⟩
 ·
  exact .inl h
 ·
  refine .inr ⟨g, cap, cur, h1, h2, h3, h4, h5, h6, List.ext_getElem? fun k => ?_⟩
  by_cases hk : k < n * c
  ·
   obtain ⟨k1, k2, k3⟩ := vcells_spot hk
   rw [List.getElem?_take_of_lt hk, Array.getElem?_toList, ← k3, h7 _ k1 _ k2, vcells_at k1 k2]
  ·
   rw [List.getElem?_eq_none (by simp; omega), List.getElem?_eq_none (by rw [vcells_len]; omega)]
theorem VOwn.of_row {B : Nat} {e : TypeId} {c : Nat} {w : World} {v : Value} {n : Nat} {F : Nat → Nat → Value} (h : w.ownsRow B e c v n (vcells c n F)) : VOwn B e c w v n F := by
 obtain ⟨_, h | ⟨g, cap, cur, h1, h2, h3, h4, h5, h6, h7⟩⟩ := h
 ·
  exact .inl h
 ·
  refine .inr ⟨g, cap, cur, h1, h2, h3, h4, h5, h6, fun i hi j hj => ?_⟩
  have hk : i * c + j < n * c := by
   have h1 := Nat.mul_le_mul_right c (show i + 1 ≤ n by omega)
   rw [Nat.succ_mul] at h1
   omega
  have := vcells_at (F := F) hi hj
  rw [← h7, List.getElem?_take_of_lt hk, Array.getElem?_toList] at this
  exact this
def upd (F : Nat → Nat → Value) (i j : Nat) (u : Value) : Nat → Nat → Value := fun i' j' => if i' = i ∧ j' = j then u else F i' j'
theorem flat_ne {c i j i' j' : Nat} (hj : j < c) (hj' : j' < c) (h : ¬ (i' = i ∧ j' = j)) : i * c + j ≠ i' * c + j' := by
 intro e
 rcases Nat.lt_trichotomy i i' with h1 | h1 | h1
 ·
  have h2 := Nat.mul_le_mul_right c (show i + 1 ≤ i' by omega)
  rw [Nat.succ_mul] at h2
  omega
 ·
  subst h1
  exact h ⟨rfl, by omega⟩
 ·
  have h2 := Nat.mul_le_mul_right c (show i' + 1 ≤ i by omega)
  rw [Nat.succ_mul] at h2
  omega
theorem VOwn.store {B : Nat} {e : TypeId} {c : Nat} {w : World} {g cap n : Nat} {F : Nat → Nat → Value} (h : VOwn B e c w (.slice (some ⟨g, 0, none⟩) n cap) n F) {i j : Nat} (hi : i < n) (hj : j < c) (u : Value) :
  VOwn B e c (w.setCell ⟨g, i * c + j, none⟩ u) (.slice (some ⟨g, 0, none⟩) n cap) n (upd F i j u) := by
 rcases h with ⟨h1, rfl⟩ | ⟨g', cp, cur, h1, h2, h3, h4, h5, h6, h7⟩
 ·
  omega
 ·
  simp only [Value.slice.injEq, Option.some.injEq, Addr.mk.injEq] at h1
  obtain ⟨⟨rfl, _⟩, _, rfl⟩ := h1
  have hlt : i * c + j < cur.size := by
   have q1 := Nat.mul_le_mul_right c (show i + 1 ≤ n by omega)
   have q2 := Nat.mul_le_mul_right c h4
   rw [Nat.succ_mul] at q1
   omega
  refine .inr ⟨g, cap, _, rfl, h2, h3.set _ u, h4, h5, by simpa using h6, fun i' hi' j' hj' => ?_⟩
  unfold upd
  by_cases hq : i' = i ∧ j' = j
  ·
   obtain ⟨rfl, rfl⟩ := hq
   simp [hlt]
  ·
   have hne := flat_ne hj hj' hq
   rw [if_neg hq, Array.getElem?_setIfInBounds, if_neg hne]
   exact h7 i' hi' j' hj'
theorem VOwn.cell {B : Nat} {e : TypeId} {c : Nat} {w : World} {g cap n : Nat} {F : Nat → Nat → Value} (h : VOwn B e c w (.slice (some ⟨g, 0, none⟩) n cap) n F) {i j : Nat} (hi : i < n) (hj : j < c) : w.cell? ⟨g, i * c + j, none⟩ = some (F i j) := by
 obtain ⟨b, off, h1, _, _, h2⟩ := h.vs (by omega)
 simp only [Option.some.injEq, Addr.mk.injEq] at h1
 obtain ⟨rfl, rfl, _⟩ := h1
 have := h2 i hi j hj
 rwa [Nat.zero_add] at this
theorem VOwn.free {B : Nat} {e : TypeId} {c : Nat} {w : World} {g cap n : Nat} {F : Nat → Nat → Value} (h : VOwn B e c w (.slice (some ⟨g, 0, none⟩) n cap) n F) (o : Nat) : w.frozen? ⟨g, o, none⟩ = false := by
 rcases h with ⟨h1, rfl⟩ | ⟨g', cp, cur, h1, h2, h3, h4, h5, h6, h7⟩
 ·
  cases h1
 ·
  simp only [Value.slice.injEq, Option.some.injEq, Addr.mk.injEq] at h1
  obtain ⟨⟨rfl, _⟩, _, rfl⟩ := h1
  exact h3.free o
theorem VOwn.addr {B : Nat} {e : TypeId} {c : Nat} {w : World} {a : Option Addr} {cap n : Nat} {F : Nat → Nat → Value} (h : VOwn B e c w (.slice a n cap) n F) (h0 : 0 < n) : ∃ g, a = some ⟨g, 0, none⟩ ∧ B ≤ g ∧ g < w.heap.size := by
 rcases h with ⟨_, rfl⟩ | ⟨g, cp, cur, h1, h2, h3, _⟩
 ·
  omega
 ·
  simp only [Value.slice.injEq] at h1
  exact ⟨g, h1.1, h2, h3.lt⟩
def VTo (c : Nat) (e : TypeId) (w : World) (B n p : Nat) (F : Nat → Nat → Value) : Prop :=
 ∃ f, w.rowIs B e (n * c) f ∧ ∀ q, q < p → f q = F (q / c) (q % c)
theorem VTo.step {c : Nat} {e : TypeId} {w : World} {B n p : Nat} {F : Nat → Nat → Value} (h : VTo c e w B n p F) {x : Value} (hx : F (p / c) (p % c) = x) : VTo c e (w.setCell ⟨B, p, none⟩ x) B n (p + 1) F := by
 obtain ⟨f, hr, hf⟩ := h
 refine ⟨_, hr.set _ _, fun q hq => ?_⟩
 by_cases e : q = p
 ·
  subst e
  simp [hx]
 ·
  simp only [e, if_false]
  exact hf q (by omega)
theorem VTo.below {c : Nat} {e : TypeId} {w w' : World} {B n p : Nat} {F : Nat → Nat → Value} (h : VTo c e w B n p F) (hb : Below w.heap.size w w') : VTo c e w' B n p F := by
 obtain ⟨f, hr, hf⟩ := h
 exact ⟨f, hr.of_block (hb.block B hr.lt), hf⟩
theorem VTo.own {c : Nat} {e : TypeId} {w : World} {b n : Nat} {F : Nat → Nat → Value} (h : VTo c e w b n (n * c) F) (hn : n ≤ maxLen) : VOwn b e c w (.slice (some ⟨b, 0, none⟩) n n) n F := by
 obtain ⟨f, ⟨cur, h1, h2, h3⟩, hf⟩ := h
 refine .inr ⟨b, n, cur, rfl, Nat.le_refl _, h1, Nat.le_refl _, hn, h2, fun i hi j hj => ?_⟩
 have hk : i * c + j < n * c := by
  have h1 := Nat.mul_le_mul_right c (show i + 1 ≤ n by omega)
  rw [Nat.succ_mul] at h1
  omega
 have hc : 0 < c := by omega
 rw [h3 _ hk, hf _ hk, show (i * c + j) / c = i by rw [Nat.mul_comm, Nat.mul_add_div hc, Nat.div_eq_of_lt hj, Nat.add_zero], show (i * c + j) % c = j by rw [Nat.mul_comm, Nat.mul_add_mod, Nat.mod_eq_of_lt hj]]
theorem VTo.new (c : Nat) (e : TypeId) (w : World) (z : Value) (n : Nat) (F : Nat → Nat → Value) : VTo c e (w.alloc (.cells (mk0 z (n * c)) e)) w.heap.size n 0 F := by
 obtain ⟨f, hf⟩ := row_mk0 w z (n * c) e
 exact ⟨f, hf, fun q hq => absurd hq (Nat.not_lt_zero _)⟩
theorem own_block {g b n k : Nat} (h : (Value.slice (some ⟨b, 0, none⟩) n k).ownBlock = some g) : g = b := by
 simp only [Value.ownBlock, Option.some.injEq] at h
 exact h.symm
theorem VOwn.grown' {B : Nat} {e : TypeId} {c : Nat} {w w2 : World} {v : Value} {n : Nat} {F : Nat → Nat → Value} (h : VOwn B e c w v n F) {row : Option Nat} (hg : w.grownBy w2 row) (hr : ∀ g, v.ownBlock = some g → row ≠ some g) : VOwn B e c w2 v n F :=
 h.keep nr fun g e => hg.block g (h.lt e).2 fun e' => hr g e e'.symm
theorem VOwn.apart {B B' : Nat} {e e' : TypeId} {c c' : Nat} {w : World} {v v' : Value} {n n' : Nat} {F F' : Nat → Nat → Value} (h : VOwn B e c w v n F) (h' : VOwn B' e' c' w v' n' F') (hT : e ≠ e') {g : Nat} (hg : v.ownBlock = some g) : v'.ownBlock ≠ some g := by
 intro hg'
 rcases h' with ⟨rfl, _⟩ | ⟨g', cap, cur, rfl, _, hb, _⟩
 ·
  simp [Value.ownBlock] at hg'
 ·
  have := own_block hg'
  subst this
  exact h.off hb (Ne.symm hT) hg rfl
theorem VOwn.box {B : Nat} {e : TypeId} {c : Nat} {w : World} {v : Value} {n : Nat} {F : Nat → Nat → Value} (h : VOwn B e c w v n F) {g : Nat} (hg : v.ownBlock = some g) : ∃ cur, Box w g e cur := by
 rcases h with ⟨rfl, rfl⟩ | ⟨g', cap, cur, rfl, h2, h3, h4⟩
 ·
  simp [Value.ownBlock] at hg
 ·
  have := own_block hg
  subst this
  exact ⟨cur, h3⟩
theorem VsAt.news {c : Nat} {w : World} {b off n : Nat} {F : Nat → Nat → Value} (h : VsAt c 0 w (some ⟨b, off, none⟩) n F) : ∀ j u, (vcells c n F)[j]? = some u → w.cell? ((⟨b, off, none⟩ : Addr).add j) = some u := by
 intro j u hj
 have hl : j < n * c := by
  have := (List.getElem?_eq_some_iff.1 hj).1
  rwa [vcells_len] at this
 obtain ⟨k1, k2, k3⟩ := vcells_spot hl
 obtain ⟨b', off', e1, _, _, hc⟩ := h (Nat.lt_of_le_of_lt (Nat.zero_le _) k1)
 simp only [Option.some.injEq, Addr.mk.injEq] at e1
 obtain ⟨rfl, rfl, _⟩ := e1
 have h1 := hc _ k1 _ k2
 rw [← k3, vcells_at k1 k2] at hj
 rw [show off + j / c * c + j % c = off + j by omega] at h1
 have hadd : (⟨b, off, none⟩ : Addr).add j = ⟨b, off + j, none⟩ := by unfold Addr.add; split <;> simp_all
 rw [hadd, h1]
 exact hj
def cat (n : Nat) (F G : Nat → Nat → Int) (i j : Nat) : Int := if i < n then F i j else G (i - n) j
theorem vcells_cat (c n m : Nat) (F G : Nat → Nat → Int) : vcells c (n + m) (intF (cat n F G)) = vcells c n (intF F) ++ vcells c m (intF G) := by
 induction m with
 | zero =>
  simp only [Nat.add_zero]
  rw [show vcells c 0 (intF G) = [] from rfl, List.append_nil]
  exact vcells_congr fun i hi j _ => by simp [cat, hi]
 | succ m ih =>
  rw [← Nat.add_assoc, vcells_succ, ih, vcells_succ, List.append_assoc]
  congr 2
  apply List.map_congr_left
  intro j _
  simp [cat]
  intro h
  omega
theorem mem_int {c n : Nat} {F : Nat → Nat → Int} : ∀ u, u ∈ vcells c n (intF F) → u.oneCell' = true := by
 intro u hu
 obtain ⟨k, hk, rfl⟩ := List.getElem_of_mem hu
 have hk' : k < n * c := by rwa [vcells_len] at hk
 obtain ⟨k1, k2, k3⟩ := vcells_spot hk'
 have := vcells_at (F := intF F) k1 k2
 rw [k3, List.getElem?_eq_getElem hk] at this
 simp only [Option.some.injEq] at this
 rw [this]
 rfl
theorem wpList_vcat {P : Program} (w : World) {ops : Array Oper} {rest : List Oper} {o : Oper} {a : Act} {Q : Exit → Act → World → Prop} (hgd : o.guard = none) (s x : Operand) (t : TypeId)
  (ho : o.op = .call { callee := .builtin .append, args := #[s, x], argTypes := #[t, t] })
  (B : Nat) (e : TypeId) (i : TypeInfo) (z : Value) (c bytes : Nat) (ht : P.underlying t = some (.slice e)) (hi : P.info? e = some i) (hz : i.zero = some z)
  (hsize : i.size = c) (hby : i.bytes = bytes) (hzs : z.cells.size = c) (hsz : 0 < c)
  (v : Value) (n : Nat) (F : Nat → Nat → Int) (hs : a.eval s = v) (hown : VOwn B e c w v n (intF F))
  (b off m cap : Nat) (G : Nat → Nat → Int) (hx : a.eval x = .slice (some ⟨b, off, none⟩) m cap) (hE : VsAt c 0 w (some ⟨b, off, none⟩) m (intF G))
  (h63 : n + m ≤ maxLen) (hbytes : (n + m) * bytes ≤ 140737488355328) (hbase : B ≤ w.heap.size)
  (h : Halt (∀ v' w', VOwn B e c w' v' (n + m) (intF (cat n F G)) → w.grownBy w' v.ownBlock → wpList P ops Q rest (a.put o.dst v') w')) : wpList P ops Q (o :: rest) a w := by
 refine wpList_append_own w hgd s x t ho B e i z c bytes ht hi hz hsize hby hzs hsz v n (vcells c n (intF F)) hs hown.row ⟨b, off, none⟩ m cap (vcells c m (intF G)) hx (vcells_len _ _ _) hE.news mem_int h63 hbytes hbase ?_
 intro v' w' ho' hg' _
 rw [← vcells_cat] at ho'
 exact h v' w' (VOwn.of_row ho') hg'
theorem wpList_vapp {P : Program} (w : World) {ops : Array Oper} {rest : List Oper} {o : Oper} {a : Act} {Q : Exit → Act → World → Prop} (hgd : o.guard = none) (s x : Operand) (t : TypeId)
  (ho : o.op = .call { callee := .builtin .append, args := #[s, x], argTypes := #[t, t] })
  (B : Nat) (e : TypeId) (i : TypeInfo) (z : Value) (c bytes : Nat) (ht : P.underlying t = some (.slice e)) (hi : P.info? e = some i) (hz : i.zero = some z)
  (hsize : i.size = c) (hby : i.bytes = bytes) (hzs : z.cells.size = c) (hsz : 0 < c)
  (v : Value) (n : Nat) (F : Nat → Nat → Value) (hs : a.eval s = v) (hown : VOwn B e c w v n F) (h1 : ∀ i j, (F i j).oneCell' = true)
  (q cap : Nat) (vs : Array Value) (hx : a.eval x = .slice (some ⟨q, 0, none⟩) 1 cap) (hb : Box w q e vs) (hvs : vs.toList = (List.range c).map (F n))
  (h63 : n + 1 ≤ maxLen) (hbytes : (n + 1) * bytes ≤ 140737488355328) (hbase : B ≤ w.heap.size)
  (h : Halt (∀ v' w', VOwn B e c w' v' (n + 1) F → w.grownBy w' v.ownBlock → wpList P ops Q rest (a.put o.dst v') w')) : wpList P ops Q (o :: rest) a w := by
 refine wpList_append_own w hgd s x t ho B e i z c bytes ht hi hz hsize hby hzs hsz v n (vcells c n F) hs hown.row ⟨q, 0, none⟩ 1 cap ((List.range c).map (F n)) hx (by simp) ?_ ?_ h63 hbytes hbase ?_
 ·
  intro j u hj
  rw [← hvs] at hj
  have hadd : (⟨q, 0, none⟩ : Addr).add j = ⟨q, j, none⟩ := by unfold Addr.add; split <;> simp_all
  rw [hadd, hb.cell]
  simpa using hj
 ·
  intro u hu
  obtain ⟨j, _, rfl⟩ := List.mem_map.1 hu
  exact h1 _ _
 ·
  intro v' w' ho' hg' _
  rw [← vcells_succ] at ho'
  exact h v' w' (VOwn.of_row ho') hg'
theorem ready2_lit {P : Program} {L : List Oper} {Q : Exit → Act → World → Prop} {md : Region.Mode} {S : World → Prop} {i j : Nat} {o o' : Oper} {fuel : Nat} {listed : Array Bool} {a : Act} {w : World} (hr : Region.ready md L.toArray listed = [i, j]) (ho : L[i]? = some o) (ho' : L[j]? = some o')
  (h : ∀ K' : Act → World → Prop, Shut (∀ a w, S w → (S w → wpAnyH P md L.toArray Q S fuel (listed.setIfInBounds i true) a w) → K' a w) → if Region.wanted o (yielded L.toArray a.tmps) = true then Oper.wp P o a w K' Q else K' (a.put o.dst undef) w)
  (h' : ∀ K' : Act → World → Prop, Shut (∀ a w, S w → (S w → wpAnyH P md L.toArray Q S fuel (listed.setIfInBounds j true) a w) → K' a w) → if Region.wanted o' (yielded L.toArray a.tmps) = true then Oper.wp P o' a w K' Q else K' (a.put o'.dst undef) w) : wpAnyH P md L.toArray Q S (fuel + 1) listed a w :=
 wpAnyH_ready hr (by simp) (AllReadyH.cons (by simpa using ho) h (AllReadyH.cons (by simpa using ho') h' AllReadyH.nil))
end Go.Proofs.YtjhmaofjmalglaaGreat
