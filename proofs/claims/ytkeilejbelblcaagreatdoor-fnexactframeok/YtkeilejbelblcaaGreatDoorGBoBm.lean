import Derived.Test.YtkeilejbelblcaaGreatDoorFq
import Derived.Test.YtkeilejbelblcaaGreatDoorIe
import Derived.Deep.AppendLies
namespace Go.Proofs.YtkeilejbelblcaaGreatDoor
open Go.RowKit

theorem infoPoint : (Tryz.prog.info? 69).map (fun i => (i.zero, i.size, i.bytes)) = some (some (.agg #[.int .i64 0, .int .i64 0]), 2, 16) := by kernel_rfl
theorem infoHeld : (Tryz.prog.info? 72).map (fun i => (i.zero, i.size, i.bytes)) = some (some (.agg #[.int .i64 0, .int .i64 0, .slice none 0 0, .bool false, .int .i64 0]), 5, 56) := by kernel_rfl
/-- a way's standing, cell by cell -/
def hlF (Y : Nat → Hl) (r : Nat → Nat) (i j : Nat) : Value :=
  if j = 0 then .int .i64 (Y i).st else if j = 1 then .int .i64 (Y i).gone else if j = 2 then .slice (some ⟨r i, 0, none⟩) (Y i).nb (Y i).nb else if j = 3 then .bool (Y i).shown else .int .i64 (Y i).timer
theorem hlF_one (Y : Nat → Hl) (r : Nat → Nat) (i j : Nat) : (hlF Y r i j).oneCell' = true := by
  unfold hlF
  split
  · rfl
  · split
    · rfl
    · split
      · rfl
      · split <;> rfl
/-- a list of how ways stand, of one's own -/
structure HsOwn (B : Nat) (w : World) (v : Value) (n : Nat) (Y : Nat → Hl) (r : Nat → Nat) : Prop where
  own : VOwn B 72 5 w v n (hlF Y r)
  row : ∀ i, i < n → VOwn (r i) 4 1 w (.slice (some ⟨r i, 0, none⟩) (Y i).nb (Y i).nb) (Y i).nb (boolF (Y i).B) ∧ B ≤ r i
  inj : ∀ i, i < n → ∀ j, j < n → r i = r j → i = j
theorem own_block {g b n k : Nat} (h : (Value.slice (some ⟨b, 0, none⟩) n k).ownBlock = some g) : g = b := by
  simp only [Value.ownBlock, Option.some.injEq] at h
  exact h.symm
theorem HsOwn.mono {B B' : Nat} {w w' : World} {v : Value} {n : Nat} {Y : Nat → Hl} {r : Nat → Nat} {M : Nat} (h : HsOwn B w v n Y r) (hB : B' ≤ B) (hb : Below M w w') (hM : w.heap.size ≤ M) : HsOwn B' w' v n Y r :=
  ⟨h.own.mono hB hb hM, fun i hi => ⟨(h.row i hi).1.mono (Nat.le_refl _) hb hM, by have := (h.row i hi).2; omega⟩, h.inj⟩
theorem HsOwn.at {B C : Nat} {w : World} {a : Option Addr} {n cap : Nat} {Y : Nat → Hl} {r : Nat → Nat} (h : HsOwn B w (.slice a n cap) n Y r) (hC : C ≤ B) : HsAt C w a n Y := by
  intro h0
  obtain ⟨b, off, e, hge, hlt, hc⟩ := h.own.vs h0
  refine ⟨b, off, e, by omega, hlt, fun i hi => ⟨_, _, hc i hi 0 (by omega), hc i hi 1 (by omega), hc i hi 2 (by omega), hc i hi 3 (by omega), hc i hi 4 (by omega), (h.row i hi).1.vs.le (by have := (h.row i hi).2; omega)⟩⟩
/-- a frame of one's own -/
structure FmOwn (B : Nat) (w : World) (f : Fm) (ov pv hv : Value) (r : Nat → Nat) : Prop where
  o : VOwn B 4 1 w ov f.no (boolF f.O)
  p : VOwn B 69 2 w pv f.np (intF f.P)
  h : HsOwn B w hv f.nh f.Y r
  ne : ∀ g, ov.ownBlock = some g → ∀ i, i < f.nh → r i ≠ g
theorem FmOwn.mono {B B' : Nat} {w w' : World} {f : Fm} {ov pv hv : Value} {r : Nat → Nat} {M : Nat} (h : FmOwn B w f ov pv hv r) (hB : B' ≤ B) (hb : Below M w w') (hM : w.heap.size ≤ M) : FmOwn B' w' f ov pv hv r :=
  ⟨h.o.mono hB hb hM, h.p.mono hB hb hM, h.h.mono hB hb hM, h.ne⟩
theorem FmOwn.in {B C : Nat} {w : World} {f : Fm} {oa pa ha : Option Addr} {oc pc hc : Nat} {r : Nat → Nat} (h : FmOwn B w f (.slice oa f.no oc) (.slice pa f.np pc) (.slice ha f.nh hc) r) (hC : C ≤ B) : FmIn C w f oa pa ha :=
  ⟨h.o.vs.le hC, h.p.vs.le hC, h.h.at hC⟩
/-- one more, in a list of one's own -/
theorem HsOwn.app {B : Nat} {w w2 : World} {v v2 : Value} {n : Nat} {Y : Nat → Hl} {r : Nat → Nat} {rb : Nat} (h : HsOwn B w v n Y r) (hq : VOwn B 72 5 w2 v2 (n + 1) (hlF Y (fun i => if i < n then r i else rb))) (hg : w.grownBy w2 v.ownBlock)
    (ho : VOwn rb 4 1 w (.slice (some ⟨rb, 0, none⟩) (Y n).nb (Y n).nb) (Y n).nb (boolF (Y n).B)) (hB : B ≤ rb) (hne : ∀ i, i < n → r i ≠ rb) : HsOwn B w2 v2 (n + 1) Y (fun i => if i < n then r i else rb) := by
  have hk : ∀ {x : Nat} {m : Nat} {F : Nat → Nat → Value}, VOwn x 4 1 w (.slice (some ⟨x, 0, none⟩) m m) m F → VOwn x 4 1 w2 (.slice (some ⟨x, 0, none⟩) m m) m F := fun {x m F} hx => by
    refine hx.keep (Nat.le_refl _) fun g hg' => hg.block g (hx.lt hg').2 fun e => ?_
    have eb := own_block hg'
    subst eb
    rcases hx with ⟨e1, _⟩ | ⟨g', cp, cur, e1, _, hb, _⟩
    · cases e1
    · simp only [Value.slice.injEq, Option.some.injEq, Addr.mk.injEq, and_true, true_and] at e1
      obtain ⟨rfl, _⟩ := e1
      exact h.own.off hb (by decide) e.symm rfl
  refine ⟨hq, fun i hi => ?_, fun i hi j hj e => ?_⟩
  · by_cases c : i < n
    · simp only [c, if_true]
      exact ⟨hk (h.row i c).1, (h.row i c).2⟩
    · obtain rfl : i = n := by omega
      simp only [Nat.lt_irrefl, if_false]
      exact ⟨hk ho, hB⟩
  · by_cases c : i < n
    · by_cases c2 : j < n
      · simp only [c, c2, if_true] at e
        exact h.inj i c j c2 e
      · simp only [c, c2, if_true, if_false] at e
        exact absurd e (hne i c)
    · by_cases c2 : j < n
      · simp only [c, c2, if_true, if_false] at e
        exact absurd e.symm (hne j c2)
      · omega
theorem HsOwn.nil (B : Nat) (w : World) (Y : Nat → Hl) (r : Nat → Nat) : HsOwn B w (.slice none 0 0) 0 Y r := ⟨VOwn.nil _ _ _ _ _, fun _i hi => absurd hi (Nat.not_lt_zero _), fun _i hi => absurd hi (Nat.not_lt_zero _)⟩
/-- another block grown or written -/
theorem VOwn.grown' {B : Nat} {e : TypeId} {c : Nat} {w w2 : World} {v : Value} {n : Nat} {F : Nat → Nat → Value} (h : VOwn B e c w v n F) {row : Option Nat} (hg : w.grownBy w2 row) (hr : ∀ g, v.ownBlock = some g → row ≠ some g) : VOwn B e c w2 v n F :=
  h.keep (Nat.le_refl _) fun g e => hg.block g (h.lt e).2 fun e' => hr g e e'.symm
theorem VOwn.apart {B B' : Nat} {e e' : TypeId} {c c' : Nat} {w : World} {v v' : Value} {n n' : Nat} {F F' : Nat → Nat → Value} (h : VOwn B e c w v n F) (h' : VOwn B' e' c' w v' n' F') (hT : e ≠ e') {g : Nat} (hg : v.ownBlock = some g) : v'.ownBlock ≠ some g := by
  intro hg'
  rcases h' with ⟨rfl, _⟩ | ⟨g', cap, cur, rfl, _, hb, _⟩
  · simp [Value.ownBlock] at hg'
  · have := own_block hg'
    subst this
    exact h.off hb (Ne.symm hT) hg rfl
theorem mk0_boolB (n : Nat) : ∀ i, i < n → (mk0 (.bool false) n)[i]? = some (.bool false) := fun i hi => by
  simp [mk0, madeCells, Value.cells, hi, Nat.mod_one]
theorem VOwn.made {w : World} {b n : Nat} (h : Box w b 4 (mk0 (.bool false) n)) (hn : n ≤ 1048576) : VOwn b 4 1 w (.slice (some ⟨b, 0, none⟩) n n) n (boolF fun _ => false) := by
  refine .inr ⟨b, n, _, rfl, Nat.le_refl _, h, Nat.le_refl _, by simp [maxLen]; omega, by rw [Nat.mul_one]; exact size_madeCells _ _, fun i hi j hj => ?_⟩
  obtain rfl : j = 0 := by omega
  rw [Nat.mul_one, Nat.add_zero]
  exact mk0_boolB n i hi
theorem Below.of_grown {w w' : World} {row : Option Nat} {B : Nat} (h : w.grownBy w' row) (hB : B ≤ w.heap.size) (hr : ∀ g, row = some g → B ≤ g) : Below B w w' :=
  ⟨h.os, h.tape, h.output, h.size, fun k hk => h.block k (by omega) (fun e => by have := hr k e.symm; omega)⟩
theorem size_alloc3 (w : World) (a b c : Obj) : (((w.alloc a).alloc b).alloc c).heap.size = w.heap.size + 1 + 1 + 1 := by simp
/-- the frame in which all begins -/
def begF (p : Pl) : Fm := if (planF p).1 = 0 then ⟨true, p.sec.toNat, fun _ => false, p.nw, fun _ _ => 1, p.ny, fun i => ⟨0, 0, (p.Y i).ns, fun _ => false, false, 0⟩⟩ else ⟨false, 0, fun _ => false, 0, fun _ _ => 0, 0, fun _ => ⟨0, 0, 0, fun _ => false, false, 0⟩⟩
/-- a frame as an answer -/
def FmR (w : World) (f : Fm) (e : Ending) (w' : World) : Prop :=
  ∃ (oa pa ha : Option Addr) (oc pc hc : Nat) (r : Nat → Nat), e = .returned (.agg #[.bool f.ok, .slice oa f.no oc, .slice pa f.np pc, .slice ha f.nh hc]) ∧ FmOwn w.heap.size w' f (.slice oa f.no oc) (.slice pa f.np pc) (.slice ha f.nh hc) r ∧ Below w.heap.size w w'
theorem begF_no {p : Pl} (h : (planF p).1 ≠ 0) : begF p = ⟨false, 0, fun _ => false, 0, fun _ _ => 0, 0, fun _ => ⟨0, 0, 0, fun _ => false, false, 0⟩⟩ := if_neg h
theorem begF_yes {p : Pl} (h : (planF p).1 = 0) : begF p = ⟨true, p.sec.toNat, fun _ => false, p.nw, fun _ _ => 1, p.ny, fun i => ⟨0, 0, (p.Y i).ns, fun _ => false, false, 0⟩⟩ := if_pos h

end Go.Proofs.YtkeilejbelblcaaGreatDoor

namespace Go.Proofs.YtkeilejbelblcaaGreatDoor
open Go.RowKit

theorem Box.ne {w : World} {b q : Nat} {T T' : TypeId} {vs vs' : Array Value} (h : Box w b T vs) (h' : Box w q T' vs') (hT : T ≠ T') : b ≠ q := by
  intro e
  subst e
  have h1 : w.heap[b]? = some (.cells vs T (0, 0)) := h
  have h2 : w.heap[b]? = some (.cells vs' T' (0, 0)) := h'
  rw [h1] at h2
  simp only [Option.some.injEq, Obj.cells.injEq] at h2
  exact hT h2.2.1
theorem VOwn.box {B : Nat} {e : TypeId} {c : Nat} {w : World} {v : Value} {n : Nat} {F : Nat → Nat → Value} (h : VOwn B e c w v n F) {g : Nat} (hg : v.ownBlock = some g) : ∃ cur, Box w g e cur := by
  rcases h with ⟨rfl, rfl⟩ | ⟨g', cap, cur, rfl, h2, h3, h4⟩
  · simp [Value.ownBlock] at hg
  · have := own_block hg
    subst this
    exact ⟨cur, h3⟩
theorem VOwn.by_ {B : Nat} {e : TypeId} {c : Nat} {w w' : World} {v : Value} {n : Nat} {F : Nat → Nat → Value} (h : VOwn B e c w v n F) (hk : ∀ b cur, Box w b e cur → w'.heap[b]? = w.heap[b]?) : VOwn B e c w' v n F :=
  h.keep (Nat.le_refl _) fun g hg => by
    obtain ⟨cur, hb⟩ := h.box hg
    exact hk g cur hb
theorem HsOwn.by_ {B : Nat} {w w' : World} {v : Value} {n : Nat} {Y : Nat → Hl} {r : Nat → Nat} (h : HsOwn B w v n Y r) (hk : ∀ b T cur, Box w b T cur → (T = 72 ∨ T = 4) → w'.heap[b]? = w.heap[b]?) : HsOwn B w' v n Y r :=
  ⟨h.own.by_ fun b cur hb => hk b 72 cur hb (.inl rfl), fun i hi => ⟨(h.row i hi).1.by_ fun b cur hb => hk b 4 cur hb (.inr rfl), (h.row i hi).2⟩, h.inj⟩
/-- one struct appended to a slice of one's own, where the order is drawn -/
theorem step_vapp {P : Program} (w : World) {ops : Array Oper} {o : Oper} {a : Act} {K : Act → World → Prop} {Q : Exit → Act → World → Prop} {E : Prop} (hgd : o.guard = none) (s x : Operand) (t : TypeId)
    (ho : o.op = .call { callee := .builtin .append, args := #[s, x], argTypes := #[t, t] })
    (B : Nat) (e : TypeId) (i : TypeInfo) (z : Value) (c bytes : Nat) (ht : P.underlying t = some (.slice e)) (hi : P.info? e = some i) (hz : i.zero = some z)
    (hsize : i.size = c) (hby : i.bytes = bytes) (hzs : z.cells.size = c) (hsz : 0 < c)
    (v : Value) (n : Nat) (F : Nat → Nat → Value) (hs : a.eval s = v) (hown : VOwn B e c w v n F) (h1 : ∀ i j, (F i j).oneCell' = true)
    (q cap : Nat) (vs : Array Value) (hx : a.eval x = .slice (some ⟨q, 0, none⟩) 1 cap) (hb : Box w q e vs) (hvs : vs.toList = (List.range c).map (F n))
    (h63 : n + 1 ≤ maxLen) (hbytes : (n + 1) * bytes ≤ 140737488355328) (hbase : B ≤ w.heap.size)
    (h : ∀ g gc w', VOwn B e c w' (.slice (some ⟨g, 0, none⟩) (n + 1) gc) (n + 1) F → w.grownBy w' v.ownBlock → K (a.put o.dst (.slice (some ⟨g, 0, none⟩) (n + 1) gc)) w') :
    if Region.wanted o (yielded ops a.tmps) = true then Oper.wp P o a w K Q else E := by
  refine step_append_lies w hgd s x t ho B e i z c bytes ht hi hz hsize hby hzs hsz v n (vcells c n F) hs hown.row ⟨q, 0, none⟩ 1 cap ((List.range c).map (F n)) hx (by simp) ?_ ?_ (by omega) h63 hbytes hbase w.heap.size rfl ?_
  · intro j u hj
    rw [← hvs] at hj
    have hadd : (⟨q, 0, none⟩ : Addr).add j = ⟨q, j, none⟩ := by unfold Addr.add; split <;> simp_all
    rw [hadd, hb.cell]
    simpa using hj
  · intro u hu
    obtain ⟨j, _, rfl⟩ := List.mem_map.1 hu
    exact h1 _ _
  · intro g gc w' ho' hg' _ _
    rw [← vcells_succ] at ho'
    exact h g gc w' (VOwn.of_row ho') hg'
/-- what lies there while a frame is made -/
def BgM (p : Pl) (w : World) (wa ya ba : Option Addr) (wc yc bc ob fb n : Nat) (pv : Value) (np : Nat) (hv : Value) (nh : Nat) (r : Nat → Nat) (W : World) : Prop :=
  Below w.heap.size w W ∧ Box W w.heap.size 37 #[.int .i64 p.sec, .slice wa p.nw wc, .slice ya p.ny yc, .slice ba p.nb bc, .int .i64 p.hold] ∧ Box W (w.heap.size + 1) 42 #[.bool false, .slice none 0 0, .slice none 0 0, .slice none 0 0] ∧ Box W fb 42 #[.bool true, .slice (some ⟨ob, 0, none⟩) n n, pv, hv] ∧ VOwn ob 4 1 W (.slice (some ⟨ob, 0, none⟩) n n) n (boolF fun _ => false) ∧ VOwn fb 69 2 W (pv) np (intF fun _ _ => 1) ∧ HsOwn fb W (hv) nh (fun i => ⟨0, 0, (p.Y i).ns, fun _ => false, false, 0⟩) r ∧ w.heap.size + 1 < ob ∧ ob < fb
theorem BgM.mono {p : Pl} {w : World} {wa ya ba : Option Addr} {wc yc bc ob fb n : Nat} {pv : Value} {np : Nat} {hv : Value} {nh : Nat} {r : Nat → Nat} {W W' : World} (h : BgM p w wa ya ba wc yc bc ob fb n pv np hv nh r W) (hb : Below W.heap.size W W') : BgM p w wa ya ba wc yc bc ob fb n pv np hv nh r W' := by
  obtain ⟨h1, h2, h3, h4, h5, h6, h7, h8⟩ := h
  have hl := Nat.le_refl W.heap.size
  exact ⟨h1.trans (hb.mono h1.size), h2.mono hb hl, h3.mono hb hl, h4.mono hb hl, h5.mono (Nat.le_refl _) hb hl, h6.mono (Nat.le_refl _) hb hl, h7.mono (Nat.le_refl _) hb hl, h8⟩
/-- one point more -/
theorem BgM.point {p : Pl} {w : World} {wa ya ba : Option Addr} {wc yc bc ob fb n : Nat} {pv : Value} {np : Nat} {hv : Value} {nh : Nat} {r : Nat → Nat} {W W' : World} {pv' : Value} (h : BgM p w wa ya ba wc yc bc ob fb n pv np hv nh r W) (hq : VOwn fb 69 2 W' pv' (np + 1) (intF fun _ _ => 1)) (hg : W.grownBy W' pv.ownBlock) :
    BgM p w wa ya ba wc yc bc ob fb n pv' (np + 1) hv nh r (W'.setCell ⟨fb, 2, none⟩ pv') ∧ Box W' fb 42 #[.bool true, .slice (some ⟨ob, 0, none⟩) n n, pv, hv] := by
  obtain ⟨h1, h2, h3, h4, h5, h6, h7, h8, h9⟩ := h
  have hb4 : Box W' fb 42 #[.bool true, .slice (some ⟨ob, 0, none⟩) n n, pv, hv] := h4.grown hg fun e => h6.off h4 (by decide) e rfl
  have K : ∀ b T cur, Box W b T cur → T ≠ 69 → b ≠ fb → (W'.setCell ⟨fb, 2, none⟩ pv').heap[b]? = W.heap[b]? := fun b T cur hb hT hne =>
    (Below.heap_setCell _ _ _ _ hne).trans (hg.block b hb.lt fun e => h6.off hb hT e.symm rfl)
  have hB : Below w.heap.size W (W'.setCell ⟨fb, 2, none⟩ pv') := (Below.of_grown hg h1.size fun g e => by have := (h6.lt e).1; omega).setCell (by show w.heap.size ≤ fb; omega) _
  refine ⟨⟨h1.trans hB, h2.keep (K _ _ _ h2 (by decide) (by omega)), h3.keep (K _ _ _ h3 (by decide) (by omega)), hb4.set 2 pv', h5.by_ fun b cur hb => K b 4 cur hb (by decide) (hb.ne h4 (by decide)), hq.set hb4 (by decide) 2 pv', h7.by_ fun b T cur hb hT => K b T cur hb (by rcases hT with rfl | rfl <;> decide) (hb.ne h4 (by rcases hT with rfl | rfl <;> decide)), h8, h9⟩, hb4⟩
/-- one way more -/
theorem BgM.way {p : Pl} {w : World} {wa ya ba : Option Addr} {wc yc bc ob fb n : Nat} {pv : Value} {np : Nat} {hv : Value} {nh : Nat} {r : Nat → Nat} {W W' : World} {hv' : Value} {rb : Nat} (h : BgM p w wa ya ba wc yc bc ob fb n pv np hv nh r W) (hq : VOwn fb 72 5 W' hv' (nh + 1) (hlF (fun i => ⟨0, 0, (p.Y i).ns, fun _ => false, false, 0⟩) (fun i => if i < nh then r i else rb))) (hg : W.grownBy W' hv.ownBlock)
    (ho : VOwn rb 4 1 W (.slice (some ⟨rb, 0, none⟩) (p.Y nh).ns (p.Y nh).ns) (p.Y nh).ns (boolF fun _ => false)) (hB : fb ≤ rb) (hne : ∀ i, i < nh → r i ≠ rb) :
    BgM p w wa ya ba wc yc bc ob fb n pv np hv' (nh + 1) (fun i => if i < nh then r i else rb) (W'.setCell ⟨fb, 3, none⟩ hv') ∧ Box W' fb 42 #[.bool true, .slice (some ⟨ob, 0, none⟩) n n, pv, hv] := by
  obtain ⟨h1, h2, h3, h4, h5, h6, h7, h8, h9⟩ := h
  have hb4 : Box W' fb 42 #[.bool true, .slice (some ⟨ob, 0, none⟩) n n, pv, hv] := h4.grown hg fun e => h7.own.off h4 (by decide) e rfl
  have K : ∀ b T cur, Box W b T cur → T ≠ 72 → b ≠ fb → (W'.setCell ⟨fb, 3, none⟩ hv').heap[b]? = W.heap[b]? := fun b T cur hb hT hne =>
    (Below.heap_setCell _ _ _ _ hne).trans (hg.block b hb.lt fun e => h7.own.off hb hT e.symm rfl)
  have hB' : Below w.heap.size W (W'.setCell ⟨fb, 3, none⟩ hv') := (Below.of_grown hg h1.size fun g e => by have := (h7.own.lt e).1; omega).setCell (by show w.heap.size ≤ fb; omega) _
  have h7' := h7.app hq hg ho hB hne
  have K2 : ∀ b T cur, Box W' b T cur → T ≠ 42 → (W'.setCell ⟨fb, 3, none⟩ hv').heap[b]? = W'.heap[b]? := fun b T cur hb hT => Below.heap_setCell _ _ _ _ (hb.ne hb4 hT)
  refine ⟨⟨h1.trans hB', h2.keep (K _ _ _ h2 (by decide) (by omega)), h3.keep (K _ _ _ h3 (by decide) (by omega)), hb4.set 3 hv', h5.by_ fun b cur hb => K b 4 cur hb (by decide) (hb.ne h4 (by decide)), h6.by_ fun b cur hb => K b 69 cur hb (by decide) (hb.ne h4 (by decide)), h7'.by_ fun b T cur hb hT => K2 b T cur hb (by rcases hT with rfl | rfl <;> decide), h8, h9⟩, hb4⟩

end Go.Proofs.YtkeilejbelblcaaGreatDoor
