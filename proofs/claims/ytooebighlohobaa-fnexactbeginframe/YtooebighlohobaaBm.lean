import Derived.Test.YtooebighlohobaaBo
import Derived.Deep.AppendLies
namespace Go.Proofs.Ytooebighlohobaa
open Go.RowKit

theorem Box.ne {w : World} {b q : Nat} {T T' : TypeId} {vs vs' : Array Value} (h : Box w b T vs) (h' : Box w q T' vs') (hT : T ≠ T') : b ≠ q := by
  intro e
  subst e
  have h1 : w.heap[b]? = some (.cells vs T (0, 0)) := h
  have h2 : w.heap[b]? = some (.cells vs' T' (0, 0)) := h'
  rw [h1] at h2
  simp only [Option.some.injEq, Obj.cells.injEq] at h2
  exact hT h2.2.1
theorem VOwn.box {B : Nat} {e : TypeId} {c : Nat} {w : World} {v : Value} {n : Nat} {F : Nat → Nat → Value} (h : VOwn B e c w v n F) {g : Nat} (hg : v.ownBlock = some g) : ∃ cur, Box w g e cur := by
  rcases h with ⟨rfl, rfl⟩ | ⟨g', cap, cur, rfl, h2, h3, h4⟩
  · simp [Value.ownBlock] at hg
  · have := own_block hg
    subst this
    exact ⟨cur, h3⟩
theorem VOwn.by_ {B : Nat} {e : TypeId} {c : Nat} {w w' : World} {v : Value} {n : Nat} {F : Nat → Nat → Value} (h : VOwn B e c w v n F) (hk : ∀ b cur, Box w b e cur → w'.heap[b]? = w.heap[b]?) : VOwn B e c w' v n F :=
  h.keep (Nat.le_refl _) fun g hg => by
    obtain ⟨cur, hb⟩ := h.box hg
    exact hk g cur hb
theorem HsOwn.by_ {B : Nat} {w w' : World} {v : Value} {n : Nat} {Y : Nat → Hl} {r : Nat → Nat} (h : HsOwn B w v n Y r) (hk : ∀ b T cur, Box w b T cur → (T = 71 ∨ T = 4) → w'.heap[b]? = w.heap[b]?) : HsOwn B w' v n Y r :=
  ⟨h.own.by_ fun b cur hb => hk b 71 cur hb (.inl rfl), fun i hi => ⟨(h.row i hi).1.by_ fun b cur hb => hk b 4 cur hb (.inr rfl), (h.row i hi).2⟩, h.inj⟩
/-- one struct appended to a slice of one's own, where the order is drawn -/
theorem step_vapp {P : Program} (w : World) {ops : Array Oper} {o : Oper} {a : Act} {K : Act → World → Prop} {Q : Exit → Act → World → Prop} {E : Prop} (hgd : o.guard = none) (s x : Operand) (t : TypeId)
    (ho : o.op = .call { callee := .builtin .append, args := #[s, x], argTypes := #[t, t] })
    (B : Nat) (e : TypeId) (i : TypeInfo) (z : Value) (c bytes : Nat) (ht : P.underlying t = some (.slice e)) (hi : P.info? e = some i) (hz : i.zero = some z)
    (hsize : i.size = c) (hby : i.bytes = bytes) (hzs : z.cells.size = c) (hsz : 0 < c)
    (v : Value) (n : Nat) (F : Nat → Nat → Value) (hs : a.eval s = v) (hown : VOwn B e c w v n F) (h1 : ∀ i j, (F i j).oneCell' = true)
    (q cap : Nat) (vs : Array Value) (hx : a.eval x = .slice (some ⟨q, 0, none⟩) 1 cap) (hb : Box w q e vs) (hvs : vs.toList = (List.range c).map (F n))
    (h63 : n + 1 ≤ maxLen) (hbytes : (n + 1) * bytes ≤ 140737488355328) (hbase : B ≤ w.heap.size)
    (h : ∀ g gc w', VOwn B e c w' (.slice (some ⟨g, 0, none⟩) (n + 1) gc) (n + 1) F → w.grownBy w' v.ownBlock → K (a.put o.dst (.slice (some ⟨g, 0, none⟩) (n + 1) gc)) w') :
    if Region.wanted o (yielded ops a.tmps) = true then Oper.wp P o a w K Q else E := by
  refine step_append_lies w hgd s x t ho B e i z c bytes ht hi hz hsize hby hzs hsz v n (vcells c n F) hs hown.row ⟨q, 0, none⟩ 1 cap ((List.range c).map (F n)) hx (by simp) ?_ ?_ (by omega) h63 hbytes hbase w.heap.size rfl ?_
  · intro j u hj
    rw [← hvs] at hj
    have hadd : (⟨q, 0, none⟩ : Addr).add j = ⟨q, j, none⟩ := by unfold Addr.add; split <;> simp_all
    rw [hadd, hb.cell]
    simpa using hj
  · intro u hu
    obtain ⟨j, _, rfl⟩ := List.mem_map.1 hu
    exact h1 _ _
  · intro g gc w' ho' hg' _ _
    rw [← vcells_succ] at ho'
    exact h g gc w' (VOwn.of_row ho') hg'
/-- what lies there while a frame is made -/
def BgM (p : Pl) (w : World) (wa ya ba : Option Addr) (wc yc bc ob fb n : Nat) (pv : Value) (np : Nat) (hv : Value) (nh : Nat) (r : Nat → Nat) (W : World) : Prop :=
  Below w.heap.size w W ∧ Box W w.heap.size 33 #[.int .i64 p.sec, .slice wa p.nw wc, .slice ya p.ny yc, .slice ba p.nb bc, .int .i64 p.hold] ∧ Box W (w.heap.size + 1) 42 #[.bool false, .slice none 0 0, .slice none 0 0, .slice none 0 0] ∧ Box W fb 42 #[.bool true, .slice (some ⟨ob, 0, none⟩) n n, pv, hv] ∧ VOwn ob 4 1 W (.slice (some ⟨ob, 0, none⟩) n n) n (boolF fun _ => false) ∧ VOwn fb 69 2 W (pv) np (intF fun _ _ => 1) ∧ HsOwn fb W (hv) nh (fun i => ⟨0, 0, (p.Y i).ns, fun _ => false, false, 0⟩) r ∧ w.heap.size + 1 < ob ∧ ob < fb
theorem BgM.mono {p : Pl} {w : World} {wa ya ba : Option Addr} {wc yc bc ob fb n : Nat} {pv : Value} {np : Nat} {hv : Value} {nh : Nat} {r : Nat → Nat} {W W' : World} (h : BgM p w wa ya ba wc yc bc ob fb n pv np hv nh r W) (hb : Below W.heap.size W W') : BgM p w wa ya ba wc yc bc ob fb n pv np hv nh r W' := by
  obtain ⟨h1, h2, h3, h4, h5, h6, h7, h8⟩ := h
  have hl := Nat.le_refl W.heap.size
  exact ⟨h1.trans (hb.mono h1.size), h2.mono hb hl, h3.mono hb hl, h4.mono hb hl, h5.mono (Nat.le_refl _) hb hl, h6.mono (Nat.le_refl _) hb hl, h7.mono (Nat.le_refl _) hb hl, h8⟩
/-- one point more -/
theorem BgM.point {p : Pl} {w : World} {wa ya ba : Option Addr} {wc yc bc ob fb n : Nat} {pv : Value} {np : Nat} {hv : Value} {nh : Nat} {r : Nat → Nat} {W W' : World} {pv' : Value} (h : BgM p w wa ya ba wc yc bc ob fb n pv np hv nh r W) (hq : VOwn fb 69 2 W' pv' (np + 1) (intF fun _ _ => 1)) (hg : W.grownBy W' pv.ownBlock) :
    BgM p w wa ya ba wc yc bc ob fb n pv' (np + 1) hv nh r (W'.setCell ⟨fb, 2, none⟩ pv') ∧ Box W' fb 42 #[.bool true, .slice (some ⟨ob, 0, none⟩) n n, pv, hv] := by
  obtain ⟨h1, h2, h3, h4, h5, h6, h7, h8, h9⟩ := h
  have hb4 : Box W' fb 42 #[.bool true, .slice (some ⟨ob, 0, none⟩) n n, pv, hv] := h4.grown hg fun e => h6.off h4 (by decide) e rfl
  have K : ∀ b T cur, Box W b T cur → T ≠ 69 → b ≠ fb → (W'.setCell ⟨fb, 2, none⟩ pv').heap[b]? = W.heap[b]? := fun b T cur hb hT hne =>
    (Below.heap_setCell _ _ _ _ hne).trans (hg.block b hb.lt fun e => h6.off hb hT e.symm rfl)
  have hB : Below w.heap.size W (W'.setCell ⟨fb, 2, none⟩ pv') := (Below.of_grown hg h1.size fun g e => by have := (h6.lt e).1; omega).setCell (by show w.heap.size ≤ fb; omega) _
  refine ⟨⟨h1.trans hB, h2.keep (K _ _ _ h2 (by decide) (by omega)), h3.keep (K _ _ _ h3 (by decide) (by omega)), hb4.set 2 pv', h5.by_ fun b cur hb => K b 4 cur hb (by decide) (hb.ne h4 (by decide)), hq.set hb4 (by decide) 2 pv', h7.by_ fun b T cur hb hT => K b T cur hb (by rcases hT with rfl | rfl <;> decide) (hb.ne h4 (by rcases hT with rfl | rfl <;> decide)), h8, h9⟩, hb4⟩
/-- one way more -/
theorem BgM.way {p : Pl} {w : World} {wa ya ba : Option Addr} {wc yc bc ob fb n : Nat} {pv : Value} {np : Nat} {hv : Value} {nh : Nat} {r : Nat → Nat} {W W' : World} {hv' : Value} {rb : Nat} (h : BgM p w wa ya ba wc yc bc ob fb n pv np hv nh r W) (hq : VOwn fb 71 5 W' hv' (nh + 1) (hlF (fun i => ⟨0, 0, (p.Y i).ns, fun _ => false, false, 0⟩) (fun i => if i < nh then r i else rb))) (hg : W.grownBy W' hv.ownBlock)
    (ho : VOwn rb 4 1 W (.slice (some ⟨rb, 0, none⟩) (p.Y nh).ns (p.Y nh).ns) (p.Y nh).ns (boolF fun _ => false)) (hB : fb ≤ rb) (hne : ∀ i, i < nh → r i ≠ rb) :
    BgM p w wa ya ba wc yc bc ob fb n pv np hv' (nh + 1) (fun i => if i < nh then r i else rb) (W'.setCell ⟨fb, 3, none⟩ hv') ∧ Box W' fb 42 #[.bool true, .slice (some ⟨ob, 0, none⟩) n n, pv, hv] := by
  obtain ⟨h1, h2, h3, h4, h5, h6, h7, h8, h9⟩ := h
  have hb4 : Box W' fb 42 #[.bool true, .slice (some ⟨ob, 0, none⟩) n n, pv, hv] := h4.grown hg fun e => h7.own.off h4 (by decide) e rfl
  have K : ∀ b T cur, Box W b T cur → T ≠ 71 → b ≠ fb → (W'.setCell ⟨fb, 3, none⟩ hv').heap[b]? = W.heap[b]? := fun b T cur hb hT hne =>
    (Below.heap_setCell _ _ _ _ hne).trans (hg.block b hb.lt fun e => h7.own.off hb hT e.symm rfl)
  have hB' : Below w.heap.size W (W'.setCell ⟨fb, 3, none⟩ hv') := (Below.of_grown hg h1.size fun g e => by have := (h7.own.lt e).1; omega).setCell (by show w.heap.size ≤ fb; omega) _
  have h7' := h7.app hq hg ho hB hne
  have K2 : ∀ b T cur, Box W' b T cur → T ≠ 42 → (W'.setCell ⟨fb, 3, none⟩ hv').heap[b]? = W'.heap[b]? := fun b T cur hb hT => Below.heap_setCell _ _ _ _ (hb.ne hb4 hT)
  refine ⟨⟨h1.trans hB', h2.keep (K _ _ _ h2 (by decide) (by omega)), h3.keep (K _ _ _ h3 (by decide) (by omega)), hb4.set 3 hv', h5.by_ fun b cur hb => K b 4 cur hb (by decide) (hb.ne h4 (by decide)), h6.by_ fun b cur hb => K b 69 cur hb (by decide) (hb.ne h4 (by decide)), h7'.by_ fun b T cur hb hT => K2 b T cur hb (by rcases hT with rfl | rfl <;> decide), h8, h9⟩, hb4⟩

end Go.Proofs.Ytooebighlohobaa
