import Derived.Test.YtlgapgajgpilgaaGreatDoorZac
import Derived.Test.YtlgapgajgpilgaaGreatDoorZah
import Derived.Deep.AppendLies
import Derived.Test.YtlgapgajgpilgaaGreatDoorZae
namespace Go.Proofs.YtlgapgajgpilgaaGreatDoor
open Go.RowKit
theorem infoPoint : (Tryz.prog.info? 107).map (fun i => (i.zero, i.size, i.bytes)) = some (some (.agg #[.int .i64 0, .int .i64 0]), 2, 16) := by kernel_rfl
theorem infoHeld : (Tryz.prog.info? 109).map (fun i => (i.zero, i.size, i.bytes)) = some (some (.agg #[.int .i64 0, .int .i64 0, .slice none 0 0, .bool false, .int .i64 0]), 5, 56) := by kernel_rfl
def hlF (Y : Nat → Hl) (r : Nat → Nat) (i j : Nat) : Value :=
 if j = 0 then .int .i64 (Y i).st else if j = 1 then .int .i64 (Y i).gone else if j = 2 then .slice (some ⟨r i, 0, none⟩) (Y i).nb (Y i).nb else if j = 3 then .bool (Y i).shown else .int .i64 (Y i).timer
theorem hlF_one (Y : Nat → Hl) (r : Nat → Nat) (i j : Nat) : (hlF Y r i j).oneCell' = true := by
 unfold hlF
 split
 ·
  rfl
 ·
  split
  ·
   rfl
  ·
   split
   ·
    rfl
   ·
    split <;> rfl
structure HsOwn (B : Nat) (w : World) (v : Value) (n : Nat) (Y : Nat → Hl) (r : Nat → Nat) : Prop where
 own : VOwn B 109 5 w v n (hlF Y r)
 row : ∀ i, i < n → VOwn (r i) 4 1 w (.slice (some ⟨r i, 0, none⟩) (Y i).nb (Y i).nb) (Y i).nb (boolF (Y i).B) ∧ B ≤ r i
 inj : ∀ i, i < n → ∀ j, j < n → r i = r j → i = j
theorem own_block {g b n k : Nat} (h : (Value.slice (some ⟨b, 0, none⟩) n k).ownBlock = some g) : g = b := by
 simp only [Value.ownBlock, Option.some.injEq] at h
 exact h.symm
theorem HsOwn.mono {B B' : Nat} {w w' : World} {v : Value} {n : Nat} {Y : Nat → Hl} {r : Nat → Nat} {M : Nat} (h : HsOwn B w v n Y r) (hB : B' ≤ B) (hb : Below M w w') (hM : w.heap.size ≤ M) : HsOwn B' w' v n Y r :=
 ⟨h.own.mono hB hb hM, fun i hi => ⟨(h.row i hi).1.mono nr hb hM, by have := (h.row i hi).2; omega⟩, h.inj⟩
theorem HsOwn.at {B C : Nat} {w : World} {a : Option Addr} {n cap : Nat} {Y : Nat → Hl} {r : Nat → Nat} (h : HsOwn B w (.slice a n cap) n Y r) (hC : C ≤ B) : HsAt C w a n Y := by
 intro h0
 obtain ⟨b, off, e, hge, hlt, hc⟩ := h.own.vs h0
 refine ⟨b, off, e, by omega, hlt, fun i hi => ⟨_, _, hc i hi 0 (by omega), hc i hi 1 (by omega), hc i hi 2 (by omega), hc i hi 3 (by omega), hc i hi 4 (by omega), (h.row i hi).1.vs.le (by have := (h.row i hi).2; omega)⟩⟩
structure FmOwn (B : Nat) (w : World) (f : Fm) (ov pv hv : Value) (r : Nat → Nat) : Prop where
 o : VOwn B 4 1 w ov f.no (boolF f.O)
 p : VOwn B 107 2 w pv f.np (intF f.P)
 h : HsOwn B w hv f.nh f.Y r
 ne : ∀ g, ov.ownBlock = some g → ∀ i, i < f.nh → r i ≠ g
theorem FmOwn.mono {B B' : Nat} {w w' : World} {f : Fm} {ov pv hv : Value} {r : Nat → Nat} {M : Nat} (h : FmOwn B w f ov pv hv r) (hB : B' ≤ B) (hb : Below M w w') (hM : w.heap.size ≤ M) : FmOwn B' w' f ov pv hv r :=
 ⟨h.o.mono hB hb hM, h.p.mono hB hb hM, h.h.mono hB hb hM, h.ne⟩
theorem FmOwn.in {B C : Nat} {w : World} {f : Fm} {oa pa ha : Option Addr} {oc pc hc : Nat} {r : Nat → Nat} (h : FmOwn B w f (.slice oa f.no oc) (.slice pa f.np pc) (.slice ha f.nh hc) r) (hC : C ≤ B) : FmIn C w f oa pa ha :=
 ⟨h.o.vs.le hC, h.p.vs.le hC, h.h.at hC⟩
theorem HsOwn.app {B : Nat} {w w2 : World} {v v2 : Value} {n : Nat} {Y : Nat → Hl} {r : Nat → Nat} {rb : Nat} (h : HsOwn B w v n Y r) (hq : VOwn B 109 5 w2 v2 (n + 1) (hlF Y (fun i => if i < n then r i else rb))) (hg : w.grownBy w2 v.ownBlock)
  (ho : VOwn rb 4 1 w (.slice (some ⟨rb, 0, none⟩) (Y n).nb (Y n).nb) (Y n).nb (boolF (Y n).B)) (hB : B ≤ rb) (hne : ∀ i, i < n → r i ≠ rb) : HsOwn B w2 v2 (n + 1) Y (fun i => if i < n then r i else rb) := by
 have hk : ∀ {x : Nat} {m : Nat} {F : Nat → Nat → Value}, VOwn x 4 1 w (.slice (some ⟨x, 0, none⟩) m m) m F → VOwn x 4 1 w2 (.slice (some ⟨x, 0, none⟩) m m) m F := fun {x m F} hx => by
  refine hx.keep nr fun g hg' => hg.block g (hx.lt hg').2 fun e => ?_
  have eb := own_block hg'
  subst eb
  rcases hx with ⟨e1, _⟩ | ⟨g', cp, cur, e1, _, hb, _⟩
  ·
   cases e1
  ·
   simp only [Value.slice.injEq, Option.some.injEq, Addr.mk.injEq, and_true, true_and] at e1
   obtain ⟨rfl, _⟩ := e1
   exact h.own.off hb (by decide) e.symm rfl
 refine ⟨hq, fun i hi => ?_, fun i hi j hj e => ?_⟩
 ·
  by_cases c : i < n
  ·
   simp only [c, if_true]
   exact ⟨hk (h.row i c).1, (h.row i c).2⟩
  ·
   obtain rfl : i = n := by omega
   simp only [Nat.lt_irrefl, if_false]
   exact ⟨hk ho, hB⟩
 ·
  by_cases c : i < n
  ·
   by_cases c2 : j < n
   ·
    simp only [c, c2, if_true] at e
    exact h.inj i c j c2 e
   ·
    simp only [c, c2, if_true, if_false] at e
    exact absurd e (hne i c)
  ·
   by_cases c2 : j < n
   ·
    simp only [c, c2, if_true, if_false] at e
    exact absurd e.symm (hne j c2)
   ·
    omega
theorem HsOwn.nil (B : Nat) (w : World) (Y : Nat → Hl) (r : Nat → Nat) : HsOwn B w (.slice none 0 0) 0 Y r := ⟨VOwn.nil _ _ _ _ _, fun _i hi => absurd hi (Nat.not_lt_zero _), fun _i hi => absurd hi (Nat.not_lt_zero _)⟩
theorem VOwn.grown' {B : Nat} {e : TypeId} {c : Nat} {w w2 : World} {v : Value} {n : Nat} {F : Nat → Nat → Value} (h : VOwn B e c w v n F) {row : Option Nat} (hg : w.grownBy w2 row) (hr : ∀ g, v.ownBlock = some g → row ≠ some g) : VOwn B e c w2 v n F :=
 h.keep nr fun g e => hg.block g (h.lt e).2 fun e' => hr g e e'.symm
theorem VOwn.apart {B B' : Nat} {e e' : TypeId} {c c' : Nat} {w : World} {v v' : Value} {n n' : Nat} {F F' : Nat → Nat → Value} (h : VOwn B e c w v n F) (h' : VOwn B' e' c' w v' n' F') (hT : e ≠ e') {g : Nat} (hg : v.ownBlock = some g) : v'.ownBlock ≠ some g := by
 intro hg'
 rcases h' with ⟨rfl, _⟩ | ⟨g', cap, cur, rfl, _, hb, _⟩
 ·
  simp [Value.ownBlock] at hg'
 ·
  have := own_block hg'
  subst this
  exact h.off hb (Ne.symm hT) hg rfl
theorem mk0_boolB (n : Nat) : ∀ i, i < n → (mk0 (.bool false) n)[i]? = some (.bool false) := fun i hi => by
 simp [mk0, madeCells, Value.cells, hi, Nat.mod_one]
theorem VOwn.made {w : World} {b n : Nat} (h : Box w b 4 (mk0 (.bool false) n)) (hn : n ≤ 1048576) : VOwn b 4 1 w (.slice (some ⟨b, 0, none⟩) n n) n (boolF fun _ => false) := by
 refine .inr ⟨b, n, _, rfl, Nat.le_refl _, h, Nat.le_refl _, by simp [maxLen]; omega, by rw [Nat.mul_one]; exact size_madeCells _ _, fun i hi j hj => ?_⟩
 obtain rfl : j = 0 := by omega
 rw [Nat.mul_one, Nat.add_zero]
 exact mk0_boolB n i hi
theorem Below.of_grown {w w' : World} {row : Option Nat} {B : Nat} (h : w.grownBy w' row) (hB : B ≤ w.heap.size) (hr : ∀ g, row = some g → B ≤ g) : Below B w w' :=
 ⟨h.os, h.tape, h.output, h.size, fun k hk => h.block k (by omega) (fun e => by have := hr k e.symm; omega)⟩
theorem size_alloc3 (w : World) (a b c : Obj) : (((w.alloc a).alloc b).alloc c).heap.size = w.heap.size + 1 + 1 + 1 := by simp
def begF (p : Pl) : Fm := if (planF p).1 = 0 then ⟨true, p.sec.toNat, fun _ => false, p.nw, fun _ _ => 1, p.ny, fun i => ⟨0, 0, (p.Y i).ns, fun _ => false, false, 0⟩⟩ else ⟨false, 0, fun _ => false, 0, fun _ _ => 0, 0, fun _ => ⟨0, 0, 0, fun _ => false, false, 0⟩⟩
def FmR (w : World) (f : Fm) (e : Ending) (w' : World) : Prop :=
 ∃ (oa pa ha : Option Addr) (oc pc hc : Nat) (r : Nat → Nat), e = .returned (.agg #[.bool f.ok, .slice oa f.no oc, .slice pa f.np pc, .slice ha f.nh hc]) ∧ FmOwn w.heap.size w' f (.slice oa f.no oc) (.slice pa f.np pc) (.slice ha f.nh hc) r ∧ Below w.heap.size w w'
theorem begF_no {p : Pl} (h : (planF p).1 ≠ 0) : begF p = ⟨false, 0, fun _ => false, 0, fun _ _ => 0, 0, fun _ => ⟨0, 0, 0, fun _ => false, false, 0⟩⟩ := if_neg h
theorem begF_yes {p : Pl} (h : (planF p).1 = 0) : begF p = ⟨true, p.sec.toNat, fun _ => false, p.nw, fun _ _ => 1, p.ny, fun i => ⟨0, 0, (p.Y i).ns, fun _ => false, false, 0⟩⟩ := if_pos h
end Go.Proofs.YtlgapgajgpilgaaGreatDoor
namespace Go.Proofs.YtlgapgajgpilgaaGreatDoor
open Go.RowKit
theorem Box.ne {w : World} {b q : Nat} {T T' : TypeId} {vs vs' : Array Value} (h : Box w b T vs) (h' : Box w q T' vs') (hT : T ≠ T') : b ≠ q := by
 intro e
 subst e
 have h1 : w.heap[b]? = some (.cells vs T (0, 0)) := h
 have h2 : w.heap[b]? = some (.cells vs' T' (0, 0)) := h'
 rw [h1] at h2
 simp only [Option.some.injEq, Obj.cells.injEq] at h2
 exact hT h2.2.1
theorem VOwn.box {B : Nat} {e : TypeId} {c : Nat} {w : World} {v : Value} {n : Nat} {F : Nat → Nat → Value} (h : VOwn B e c w v n F) {g : Nat} (hg : v.ownBlock = some g) : ∃ cur, Box w g e cur := by
 rcases h with ⟨rfl, rfl⟩ | ⟨g', cap, cur, rfl, h2, h3, h4⟩
 ·
  simp [Value.ownBlock] at hg
 ·
  have := own_block hg
  subst this
  exact ⟨cur, h3⟩
theorem VOwn.by_ {B : Nat} {e : TypeId} {c : Nat} {w w' : World} {v : Value} {n : Nat} {F : Nat → Nat → Value} (h : VOwn B e c w v n F) (hk : ∀ b cur, Box w b e cur → w'.heap[b]? = w.heap[b]?) : VOwn B e c w' v n F :=
 h.keep nr fun g hg => by
  obtain ⟨cur, hb⟩ := h.box hg
  exact hk g cur hb
theorem HsOwn.by_ {B : Nat} {w w' : World} {v : Value} {n : Nat} {Y : Nat → Hl} {r : Nat → Nat} (h : HsOwn B w v n Y r) (hk : ∀ b T cur, Box w b T cur → (T = 109 ∨ T = 4) → w'.heap[b]? = w.heap[b]?) : HsOwn B w' v n Y r :=
 ⟨h.own.by_ fun b cur hb => hk b 109 cur hb (.inl rfl), fun i hi => ⟨(h.row i hi).1.by_ fun b cur hb => hk b 4 cur hb (.inr rfl), (h.row i hi).2⟩, h.inj⟩
theorem step_vapp {P : Program} (w : World) {ops : Array Oper} {o : Oper} {a : Act} {K : Act → World → Prop} {Q : Exit → Act → World → Prop} {E : Prop} (hgd : o.guard = none) (s x : Operand) (t : TypeId)
  (ho : o.op = .call { callee := .builtin .append, args := #[s, x], argTypes := #[t, t] })
  (B : Nat) (e : TypeId) (i : TypeInfo) (z : Value) (c bytes : Nat) (ht : P.underlying t = some (.slice e)) (hi : P.info? e = some i) (hz : i.zero = some z)
  (hsize : i.size = c) (hby : i.bytes = bytes) (hzs : z.cells.size = c) (hsz : 0 < c)
  (v : Value) (n : Nat) (F : Nat → Nat → Value) (hs : a.eval s = v) (hown : VOwn B e c w v n F) (h1 : ∀ i j, (F i j).oneCell' = true)
  (q cap : Nat) (vs : Array Value) (hx : a.eval x = .slice (some ⟨q, 0, none⟩) 1 cap) (hb : Box w q e vs) (hvs : vs.toList = (List.range c).map (F n))
  (h63 : n + 1 ≤ maxLen) (hbytes : (n + 1) * bytes ≤ 140737488355328) (hbase : B ≤ w.heap.size)
  (h : ∀ g gc w', VOwn B e c w' (.slice (some ⟨g, 0, none⟩) (n + 1) gc) (n + 1) F → w.grownBy w' v.ownBlock → K (a.put o.dst (.slice (some ⟨g, 0, none⟩) (n + 1) gc)) w') :
  if Region.wanted o (yielded ops a.tmps) = true then Oper.wp P o a w K Q else E := by
 refine step_append_lies w hgd s x t ho B e i z c bytes ht hi hz hsize hby hzs hsz v n (vcells c n F) hs hown.row ⟨q, 0, none⟩ 1 cap ((List.range c).map (F n)) hx (by simp) ?_ ?_ (by omega) h63 hbytes hbase w.heap.size rfl ?_
 ·
  intro j u hj
  rw [← hvs] at hj
  have hadd : (⟨q, 0, none⟩ : Addr).add j = ⟨q, j, none⟩ := by unfold Addr.add; split <;> simp_all
  rw [hadd, hb.cell]
  simpa using hj
 ·
  intro u hu
  obtain ⟨j, _, rfl⟩ := List.mem_map.1 hu
  exact h1 _ _
 ·
  intro g gc w' ho' hg' _ _
  rw [← vcells_succ] at ho'
  exact h g gc w' (VOwn.of_row ho') hg'
def BgM (p : Pl) (w : World) (wa ya ba : Option Addr) (wc yc bc ob fb n : Nat) (pv : Value) (np : Nat) (hv : Value) (nh : Nat) (r : Nat → Nat) (W : World) : Prop :=
 Below w.heap.size w W ∧ Box W w.heap.size 37 #[.int .i64 p.sec, .slice wa p.nw wc, .slice ya p.ny yc, .slice ba p.nb bc, .int .i64 p.hold] ∧ Box W (w.heap.size + 1) 42 #[.bool false, .slice none 0 0, .slice none 0 0, .slice none 0 0] ∧ Box W fb 42 #[.bool true, .slice (some ⟨ob, 0, none⟩) n n, pv, hv] ∧ VOwn ob 4 1 W (.slice (some ⟨ob, 0, none⟩) n n) n (boolF fun _ => false) ∧ VOwn fb 107 2 W (pv) np (intF fun _ _ => 1) ∧ HsOwn fb W (hv) nh (fun i => ⟨0, 0, (p.Y i).ns, fun _ => false, false, 0⟩) r ∧ w.heap.size + 1 < ob ∧ ob < fb
theorem BgM.mono {p : Pl} {w : World} {wa ya ba : Option Addr} {wc yc bc ob fb n : Nat} {pv : Value} {np : Nat} {hv : Value} {nh : Nat} {r : Nat → Nat} {W W' : World} (h : BgM p w wa ya ba wc yc bc ob fb n pv np hv nh r W) (hb : Below W.heap.size W W') : BgM p w wa ya ba wc yc bc ob fb n pv np hv nh r W' := by
 obtain ⟨h1, h2, h3, h4, h5, h6, h7, h8⟩ := h
 have hl := Nat.le_refl W.heap.size
 exact ⟨h1.trans (hb.mono h1.size), h2.mono hb hl, h3.mono hb hl, h4.mono hb hl, h5.mono nr hb hl, h6.mono nr hb hl, h7.mono nr hb hl, h8⟩
theorem BgM.point {p : Pl} {w : World} {wa ya ba : Option Addr} {wc yc bc ob fb n : Nat} {pv : Value} {np : Nat} {hv : Value} {nh : Nat} {r : Nat → Nat} {W W' : World} {pv' : Value} (h : BgM p w wa ya ba wc yc bc ob fb n pv np hv nh r W) (hq : VOwn fb 107 2 W' pv' (np + 1) (intF fun _ _ => 1)) (hg : W.grownBy W' pv.ownBlock) :
  BgM p w wa ya ba wc yc bc ob fb n pv' (np + 1) hv nh r (W'.setCell ⟨fb, 2, none⟩ pv') ∧ Box W' fb 42 #[.bool true, .slice (some ⟨ob, 0, none⟩) n n, pv, hv] := by
 obtain ⟨h1, h2, h3, h4, h5, h6, h7, h8, h9⟩ := h
 have hb4 : Box W' fb 42 #[.bool true, .slice (some ⟨ob, 0, none⟩) n n, pv, hv] := h4.grown hg fun e => h6.off h4 (by decide) e rfl
 have K : ∀ b T cur, Box W b T cur → T ≠ 107 → b ≠ fb → (W'.setCell ⟨fb, 2, none⟩ pv').heap[b]? = W.heap[b]? := fun b T cur hb hT hne =>
  (Below.heap_setCell _ _ _ _ hne).trans (hg.block b hb.lt fun e => h6.off hb hT e.symm rfl)
 have hB : Below w.heap.size W (W'.setCell ⟨fb, 2, none⟩ pv') := (Below.of_grown hg h1.size fun g e => by have := (h6.lt e).1; omega).setCell (by show w.heap.size ≤ fb; omega) _
 refine ⟨⟨h1.trans hB, h2.keep (K _ _ _ h2 (by decide) (by omega)), h3.keep (K _ _ _ h3 (by decide) (by omega)), hb4.set 2 pv', h5.by_ fun b cur hb => K b 4 cur hb (by decide) (hb.ne h4 (by decide)), hq.set hb4 (by decide) 2 pv', h7.by_ fun b T cur hb hT => K b T cur hb (by rcases hT with rfl | rfl <;> decide) (hb.ne h4 (by rcases hT with rfl | rfl <;> decide)), h8, h9⟩, hb4⟩
theorem BgM.way {p : Pl} {w : World} {wa ya ba : Option Addr} {wc yc bc ob fb n : Nat} {pv : Value} {np : Nat} {hv : Value} {nh : Nat} {r : Nat → Nat} {W W' : World} {hv' : Value} {rb : Nat} (h : BgM p w wa ya ba wc yc bc ob fb n pv np hv nh r W) (hq : VOwn fb 109 5 W' hv' (nh + 1) (hlF (fun i => ⟨0, 0, (p.Y i).ns, fun _ => false, false, 0⟩) (fun i => if i < nh then r i else rb))) (hg : W.grownBy W' hv.ownBlock)
  (ho : VOwn rb 4 1 W (.slice (some ⟨rb, 0, none⟩) (p.Y nh).ns (p.Y nh).ns) (p.Y nh).ns (boolF fun _ => false)) (hB : fb ≤ rb) (hne : ∀ i, i < nh → r i ≠ rb) :
  BgM p w wa ya ba wc yc bc ob fb n pv np hv' (nh + 1) (fun i => if i < nh then r i else rb) (W'.setCell ⟨fb, 3, none⟩ hv') ∧ Box W' fb 42 #[.bool true, .slice (some ⟨ob, 0, none⟩) n n, pv, hv] := by
 obtain ⟨h1, h2, h3, h4, h5, h6, h7, h8, h9⟩ := h
 have hb4 : Box W' fb 42 #[.bool true, .slice (some ⟨ob, 0, none⟩) n n, pv, hv] := h4.grown hg fun e => h7.own.off h4 (by decide) e rfl
 have K : ∀ b T cur, Box W b T cur → T ≠ 109 → b ≠ fb → (W'.setCell ⟨fb, 3, none⟩ hv').heap[b]? = W.heap[b]? := fun b T cur hb hT hne =>
  (Below.heap_setCell _ _ _ _ hne).trans (hg.block b hb.lt fun e => h7.own.off hb hT e.symm rfl)
 have hB' : Below w.heap.size W (W'.setCell ⟨fb, 3, none⟩ hv') := (Below.of_grown hg h1.size fun g e => by have := (h7.own.lt e).1; omega).setCell (by show w.heap.size ≤ fb; omega) _
 have h7' := h7.app hq hg ho hB hne
 have K2 : ∀ b T cur, Box W' b T cur → T ≠ 42 → (W'.setCell ⟨fb, 3, none⟩ hv').heap[b]? = W'.heap[b]? := fun b T cur hb hT => Below.heap_setCell _ _ _ _ (hb.ne hb4 hT)
 refine ⟨⟨h1.trans hB', h2.keep (K _ _ _ h2 (by decide) (by omega)), h3.keep (K _ _ _ h3 (by decide) (by omega)), hb4.set 3 hv', h5.by_ fun b cur hb => K b 4 cur hb (by decide) (hb.ne h4 (by decide)), h6.by_ fun b cur hb => K b 107 cur hb (by decide) (hb.ne h4 (by decide)), h7'.by_ fun b T cur hb hT => K2 b T cur hb (by rcases hT with rfl | rfl <;> decide), h8, h9⟩, hb4⟩
end Go.Proofs.YtlgapgajgpilgaaGreatDoor
namespace Go.Proofs.YtlgapgajgpilgaaGreatDoor
open Go.RowKit
def OffV (n : Nat) (a : Option Addr) (hb r : Nat) : Prop := 0 < n → ∀ b off, a = some ⟨b, off, none⟩ → b ≠ hb ∧ b ≠ r
theorem VsAt.chg {c : Nat} {w w' : World} {a : Option Addr} {n : Nat} {F : Nat → Nat → Value} {hb lo hi r : Nat} (h : VsAt c 0 w a n F) (hc : Chg hb lo hi r w w') (ho : OffV n a hb r) : VsAt c 0 w' a n F := by
 intro h0
 obtain ⟨b, off, e, h1, h2, h3⟩ := h h0
 obtain ⟨n1, n2⟩ := ho h0 b off e
 exact ⟨b, off, e, h1, Nat.lt_of_lt_of_le h2 hc.size, fun i hi j hj => (World.cell?_of_block (a := ⟨b, off + i * c + j, none⟩) (hc.other b h2 n1 n2)).trans (h3 i hi j hj)⟩
theorem Box.chg {w w' : World} {b : Nat} {T : TypeId} {vs : Array Value} {hb lo hi r : Nat} (h : Box w b T vs) (hc : Chg hb lo hi r w w') (h1 : b ≠ hb) (h2 : b ≠ r) : Box w' b T vs := h.keep (hc.other b h.lt h1 h2)
def goneN (hb ho : Nat) (w : World) : Nat := match w.cell? ⟨hb, ho + 1, none⟩ with
 | some (.int _ v) => v.toNat
 | _ => 0
theorem HAt.goneN_eq {w : World} {hb ho : Nat} {h : Hl} {r rc : Nat} (x : HAt w hb ho h r rc) : goneN hb ho w = h.gone.toNat := by
 unfold goneN
 rw [x.c1]
def PassR (n : Nat) (OO : Nat → Bool) (hb ho : Nat) (h : Hl) (r : Nat) (w : World) (e : Ending) (w' : World) : Prop :=
 ∃ r' rc', e = .returned (.tuple #[]) ∧ HAt w' hb ho (useH ⟨n, OO, false⟩ h) r' rc' ∧ (r' = r ∨ w.heap.size ≤ r') ∧ Chg hb ho (ho + 5) r w w'
set_option maxRecDepth 100000 in
set_option maxHeartbeats 16000000 in
theorem pass74 (y : Wy) (sa la fa va ma oa : Option Addr) (sc lc fc vc mc oc : Nat) (fb hb ho no : Nat) (O : Nat → Bool) (sh : Bool) (B : Nat → Bool) (g r rc : Nat) (w : World) (hns : y.ns ≤ 1048576) (hno : no ≤ 1048576) (hin : ∀ j, j < y.ns → ∃ o : Nat, y.S j = (o : Int) ∧ o < no) (hgl : g < y.ns)
  (hs : VsAt 1 0 w sa y.ns (oneF y.S)) (hso : OffV y.ns sa hb r) (hf : w.cell? ⟨fb, 1, none⟩ = some (.slice oa no oc)) (hfl : fb < w.heap.size) (hfn : fb ≠ hb ∧ fb ≠ r) (hO : VsAt 1 0 w oa no (boolF O)) (hOo : OffV no oa hb r) (hh : HAt w hb ho ⟨4, (g : Int), y.ns, B, sh, 0⟩ r rc) :
  Calls Tryz.prog 105 #[.agg #[.slice sa y.ns sc, .slice la y.nl lc, .slice fa y.nf fc, .slice va y.no vc, .slice ma y.nm mc], .pointer (some ⟨fb, 0, none⟩), .pointer (some ⟨hb, ho, none⟩)] w fun e w' => PassR y.ns (fun k => O (y.S k).toNat) hb ho ⟨4, (g : Int), y.ns, B, sh, 0⟩ r w e w' := by
 have hc0 : Chg hb ho (ho + 5) r w (w.alloc (.cells #[.slice sa y.ns sc, .slice la y.nl lc, .slice fa y.nf fc, .slice va y.no vc, .slice ma y.nm mc] 96)) := (Chg.refl _ _ _ _ _).alloc hh.lt _
 have HX : Hid (Box (w.alloc (.cells #[.slice sa y.ns sc, .slice la y.nl lc, .slice fa y.nf fc, .slice va y.no vc, .slice ma y.nm mc] 96)) w.heap.size 96 #[.slice sa y.ns sc, .slice la y.nl lc, .slice fa y.nf fc, .slice va y.no vc, .slice ma y.nm mc] ∧ VsAt 1 0 (w.alloc (.cells #[.slice sa y.ns sc, .slice la y.nl lc, .slice fa y.nf fc, .slice va y.no vc, .slice ma y.nm mc] 96)) sa y.ns (oneF y.S) ∧ VsAt 1 0 (w.alloc (.cells #[.slice sa y.ns sc, .slice la y.nl lc, .slice fa y.nf fc, .slice va y.no vc, .slice ma y.nm mc] 96)) oa no (boolF O) ∧ (w.alloc (.cells #[.slice sa y.ns sc, .slice la y.nl lc, .slice fa y.nf fc, .slice va y.no vc, .slice ma y.nm mc] 96)).cell? ⟨fb, 1, none⟩ = some (.slice oa no oc) ∧ fb < (w.alloc (.cells #[.slice sa y.ns sc, .slice la y.nl lc, .slice fa y.nf fc, .slice va y.no vc, .slice ma y.nm mc] 96)).heap.size) := ⟨Box.new _ _ _, hs.chg hc0 hso, hO.chg hc0 hOo, (World.cell?_of_block (a := ⟨fb, 1, none⟩) (hc0.other fb hfl hfn.1 hfn.2)).trans hf, Nat.lt_of_lt_of_le hfl hc0.size⟩
 have HN : Hid (OffV y.ns sa hb r ∧ OffV no oa hb r ∧ fb ≠ hb ∧ fb ≠ r ∧ w.heap.size ≠ hb ∧ w.heap.size ≠ r ∧ r ≠ hb) := ⟨hso, hOo, hfn.1, hfn.2, by have := hh.lt; omega, by have := hh.rl; omega, hh.ne⟩
 have HC : Hid (Chg hb ho (ho + 5) r w (w.alloc (.cells #[.slice sa y.ns sc, .slice la y.nl lc, .slice fa y.nf fc, .slice va y.no vc, .slice ma y.nm mc] 96)) ∧ HAt (w.alloc (.cells #[.slice sa y.ns sc, .slice la y.nl lc, .slice fa y.nf fc, .slice va y.no vc, .slice ma y.nm mc] 96)) hb ho ⟨4, (g : Int), y.ns, B, sh, 0⟩ r rc) := ⟨hc0, hh.mono (bel1 _ _)⟩
 have HIN : Hid (∀ j, j < y.ns → ∃ o : Nat, y.S j = (o : Int) ∧ o < no) := hin
 obtain ⟨OO, HOO⟩ : ∃ OO, Hid ((fun k => O (y.S k).toNat) = OO) := ⟨_, rfl⟩
 rw [HOO.out]
 have HOv : Hid (∀ j o : Nat, y.S j = (o : Int) → OO j = O o) := fun j o e => by rw [← HOO.out]; simp [e]
 clear hs hso hf hfl hfn hO hOo hh hc0 hin HOO
 go_enter Tryz.func105, Tryz.ntmps105
 go_wp2_with fail
 generalize (w.alloc (.cells #[.slice sa y.ns sc, .slice la y.nl lc, .slice fa y.nf fc, .slice va y.no vc, .slice ma y.nm mc] 96)) = W at HX HC ⊢
 go_loopw [16] (fun i wr => ∃ q : Nat, q ≤ y.ns ∧ i = .int .i64 q ∧ Hid (Chg hb ho (ho + 5) r W wr ∧ HAt wr hb ho ⟨4, (g : Int), y.ns, fun j => if j < q then B j || OO j else B j, sh, 0⟩ r rc)) (fun i _ => y.ns - (intOf i).toNat)
 case atStart => exact ⟨0, Nat.zero_le _, rfl, Chg.refl _ _ _ _ _, by simpa using HC.out.2⟩
 case round =>
  obtain ⟨q, hq, rfl, HQ⟩ := hrel
  by_cases hlt : q < y.ns
  ·
   obtain ⟨o, hoS, hon⟩ := HIN.out q hlt
   obtain ⟨gb, go, rfl, _, hgb, hgc⟩ := HX.out.2.1.chg HQ.out.1 HN.out.1 (by omega)
   have c0 : wr.cell? ⟨gb, go + q, none⟩ = some (.int .i64 (o : Int)) := by rw [← hoS]; have := hgc q hlt 0 (by omega); rwa [Nat.mul_one] at this
   clear hgc
   obtain ⟨pb, po, rfl, _, hpb, hpc⟩ := HX.out.2.2.1.chg HQ.out.1 HN.out.2.1 (by omega)
   have d0 : wr.cell? ⟨pb, po + o, none⟩ = some (.bool (O o)) := by have := hpc o hon 0 (by omega); rwa [Nat.mul_one] at this
   clear hpc
   have f1 : wr.cell? ⟨fb, 1, none⟩ = some (.slice (some ⟨pb, po, none⟩) no oc) := (World.cell?_of_block (a := ⟨fb, 1, none⟩) (HQ.out.1.other fb HX.out.2.2.2.2 HN.out.2.2.1 HN.out.2.2.2.1)).trans HX.out.2.2.2.1
   have h2 : wr.cell? ⟨hb, ho + 2, none⟩ = some (.slice (some ⟨r, 0, none⟩) y.ns rc) := HQ.out.2.c2
   have r0 : wr.cell? ⟨r, q, none⟩ = some (.bool (B q)) := by have := (HQ.out.2.row q hlt).1; simpa using this
   have rf : wr.frozen? ⟨r, q, none⟩ = false := (HQ.out.2.row q hlt).2
   have hq0 : (0 : Int) ≤ (q : Int) := by omega
   have hqn : (q : Int) < (y.ns : Int) := by omega
   have ho0 : (0 : Int) ≤ (o : Int) := by omega
   have hon' : (o : Int) < (no : Int) := by omega
   cases hOq : O o with
   | true =>
    rw [hOq] at d0
    have HQ2 : Hid (Chg hb ho (ho + 5) r W (wr.setCell ⟨r, q, none⟩ (.bool true)) ∧ HAt (wr.setCell ⟨r, q, none⟩ (.bool true)) hb ho ⟨4, (g : Int), y.ns, fun j => if j < q + 1 then B j || OO j else B j, sh, 0⟩ r rc) :=
     ⟨HQ.out.1.row HN.out.2.2.2.2.2.2 _ _, (HQ.out.2.setRow (k := q) hlt true).congr ⟨rfl, rfl, rfl, fun j _ => by
      by_cases e : j = q
      ·
       subst e
       simp [HOv.out j o hoS, hOq]
      ·
       by_cases e2 : j < q
       ·
        have : j < q + 1 := by omega
        simp [e, e2, this]
       ·
        have : ¬ j < q + 1 := by omega
        simp [e, e2, this], rfl, rfl⟩⟩
    go_wp2_with fail
    go_roundw
    case rel => exact ⟨q + 1, by omega, by go_num, HQ2⟩
    case measure => simp [intOf]; omega
   | false =>
    rw [hOq] at d0
    have HQ2 : Hid (Chg hb ho (ho + 5) r W wr ∧ HAt wr hb ho ⟨4, (g : Int), y.ns, fun j => if j < q + 1 then B j || OO j else B j, sh, 0⟩ r rc) :=
     ⟨HQ.out.1, HQ.out.2.congr ⟨rfl, rfl, rfl, fun j _ => by
      by_cases e : j = q
      ·
       subst e
       simp [HOv.out j o hoS, hOq]
      ·
       by_cases e2 : j < q
       ·
        have : j < q + 1 := by omega
        simp [e2, this]
       ·
        have : ¬ j < q + 1 := by omega
        simp [e2, this], rfl, rfl⟩⟩
    go_wp2_with fail
    go_roundw
    case rel => exact ⟨q + 1, by omega, by go_num, HQ2⟩
    case measure => simp [intOf]; omega
  ·
   obtain rfl : q = y.ns := by omega
   obtain ⟨BB, HBB⟩ : ∃ BB, Hid (onB B OO = BB) := ⟨_, rfl⟩
   have HQ0 : Hid (Chg hb ho (ho + 5) r W wr ∧ HAt wr hb ho ⟨4, (g : Int), y.ns, BB, sh, 0⟩ r rc) := ⟨HQ.out.1, HQ.out.2.congr ⟨rfl, rfl, rfl, fun j hj => by
    rw [← HBB.out]
    have : j < y.ns := hj
    simp [this, onB], rfl, rfl⟩⟩
   clear HQ
   go_wp2_with fail
   go_loopw [] (fun wr => ∃ q k : Nat, q ≤ y.ns ∧ Hid (passN y.ns BB OO y.ns g = passN y.ns BB OO k q ∧ y.ns ≤ q + k) ∧ Hid (Chg hb ho (ho + 5) r W wr ∧ HAt wr hb ho ⟨4, (q : Int), y.ns, BB, sh, 0⟩ r rc)) (fun wr => y.ns - goneN hb ho wr)
   case atStart => exact ⟨g, y.ns, by omega, ⟨rfl, by omega⟩, HQ0⟩
   case round =>
    obtain ⟨q, k, hq, HP, HQ⟩ := hrel
    have h1 : wr.cell? ⟨hb, ho + 1, none⟩ = some (.int .i64 (q : Int)) := HQ.out.2.c1
    by_cases hlt : q < y.ns
    ·
     obtain ⟨o, hoS, hon⟩ := HIN.out q hlt
     obtain ⟨gb, go, rfl, _, hgb, hgc⟩ := HX.out.2.1.chg HQ.out.1 HN.out.1 (by omega)
     have c0 : wr.cell? ⟨gb, go + q, none⟩ = some (.int .i64 (o : Int)) := by rw [← hoS]; have := hgc q hlt 0 (by omega); rwa [Nat.mul_one] at this
     clear hgc
     obtain ⟨pb, po, rfl, _, hpb, hpc⟩ := HX.out.2.2.1.chg HQ.out.1 HN.out.2.1 (by omega)
     have d0 : wr.cell? ⟨pb, po + o, none⟩ = some (.bool (O o)) := by have := hpc o hon 0 (by omega); rwa [Nat.mul_one] at this
     clear hpc
     have f1 : wr.cell? ⟨fb, 1, none⟩ = some (.slice (some ⟨pb, po, none⟩) no oc) := (World.cell?_of_block (a := ⟨fb, 1, none⟩) (HQ.out.1.other fb HX.out.2.2.2.2 HN.out.2.2.1 HN.out.2.2.2.1)).trans HX.out.2.2.2.1
     have h2 : wr.cell? ⟨hb, ho + 2, none⟩ = some (.slice (some ⟨r, 0, none⟩) y.ns rc) := HQ.out.2.c2
     have hfz : wr.frozen? ⟨hb, ho + 1, none⟩ = false := HQ.out.2.fr 1 (by omega)
     have y0 := (HX.out.1.chg HQ.out.1 HN.out.2.2.2.2.1 HN.out.2.2.2.2.2.1).cel 0
     have r0 : wr.cell? ⟨r, q, none⟩ = some (.bool (BB q)) := (HQ.out.2.row q hlt).1
     have hq0 : (0 : Int) ≤ (q : Int) := by omega
     have hqn : (q : Int) < (y.ns : Int) := by omega
     have ho0 : (0 : Int) ≤ (o : Int) := by omega
     have hon' : (o : Int) < (no : Int) := by omega
     have eO : OO q = O o := HOv.out q o hoS
     cases hBq : BB q with
     | false =>
      rw [hBq] at r0
      go_wp2_with fail
      have HST : Hid (passN y.ns BB OO y.ns g = q) := HP.out.1.trans (passN_stop k (by simp [stopB, hBq]))
      have HR : Hid (∀ v, PassR y.ns OO hb ho ⟨4, (g : Int), y.ns, B, sh, 0⟩ r w (.returned (.tuple #[])) (wr.drewN v)) := fun v => ⟨r, rc, rfl, (HQ.out.2.drewN v).congr (by
       rw [useH]
       simp only [Int.toNat_natCast, HST.out, HBB.out]
       rw [if_neg (by omega)]
       exact likeH.refl _), .inl rfl, (HC.out.1.trans HQ.out.1).drewN v⟩
      go_quiet (fail)
      go_wp2_with fail
      exact bodyPost_ret (v := .tuple #[]) (by simp [results, Tryz.results105, go_sem]) rfl (HR.out _)
     | true =>
      rw [hBq] at r0
      cases hOq : O o with
      | true =>
       rw [hOq] at d0 eO
       go_wp2_with fail
       have HST : Hid (passN y.ns BB OO y.ns g = q) := HP.out.1.trans (passN_stop k (by simp [stopB, eO]))
       have HR : Hid (∀ v, PassR y.ns OO hb ho ⟨4, (g : Int), y.ns, B, sh, 0⟩ r w (.returned (.tuple #[])) (wr.drewN v)) := fun v => ⟨r, rc, rfl, (HQ.out.2.drewN v).congr (by
        rw [useH]
        simp only [Int.toNat_natCast, HST.out, HBB.out]
        rw [if_neg (by omega)]
        exact likeH.refl _), .inl rfl, (HC.out.1.trans HQ.out.1).drewN v⟩
       go_quiet (fail)
       go_wp2_with fail
       exact bodyPost_ret (v := .tuple #[]) (by simp [results, Tryz.results105, go_sem]) rfl (HR.out _)
      | false =>
       rw [hOq] at d0 eO
       by_cases hl : q + 1 = y.ns
       ·
        have hd : decide ((q : Int) < (y.ns : Int) - 1) = false := by simp; omega
        go_wp2_with fail
        have hng : stopB y.ns BB OO q = false := by simp [stopB, hBq, eO, hl, hlt]
        obtain ⟨k', rfl⟩ : ∃ k', k = k' + 1 := ⟨k - 1, by have := HP.out.2; omega⟩
        have HP2 : Hid (passN y.ns BB OO y.ns g = passN y.ns BB OO k' (q + 1) ∧ y.ns ≤ q + 1 + k') := ⟨HP.out.1.trans (passN_step k' hng), by have := HP.out.2; omega⟩
        have HQ2 : Hid (∀ v, Chg hb ho (ho + 5) r W ((wr.drewN v).setCell ⟨hb, ho + 1, none⟩ (.int .i64 ((q : Int) + 1))) ∧ HAt ((wr.drewN v).setCell ⟨hb, ho + 1, none⟩ (.int .i64 ((q : Int) + 1))) hb ho ⟨4, ((q + 1 : Nat) : Int), y.ns, BB, sh, 0⟩ r rc) := fun v => ⟨(HQ.out.1.drewN v).set (by omega) (by omega) _, ((HQ.out.2.drewN v).setGone ((q : Int) + 1)).congr ⟨rfl, by simp, rfl, fun _ _ => rfl, rfl, rfl⟩⟩
        have HGq : Hid (goneN hb ho wr = q) := by rw [Hid, HQ.out.2.goneN_eq]; simp
        go_quiet (fail)
        go_wp2_with fail
        go_roundw
        case rel => exact ⟨q + 1, k', by omega, HP2, HQ2.out _⟩
        case measure => rw [(HQ2.out _).2.goneN_eq, HGq.out]; simp; omega
       ·
        have hd : (q : Int) < (y.ns : Int) - 1 := by omega
        have hq1 : (q : Int) + 1 < (y.ns : Int) := by omega
        have hq10 : (0 : Int) ≤ (q : Int) + 1 := by omega
        have r1 : wr.cell? ⟨r, q + 1, none⟩ = some (.bool (BB (q + 1))) := (HQ.out.2.row (q + 1) (show q + 1 < y.ns by omega)).1
        cases hB1 : BB (q + 1) with
        | false =>
         rw [hB1] at r1
         go_wp2_with fail
         have HST : Hid (passN y.ns BB OO y.ns g = q) := HP.out.1.trans (passN_stop k (by simp [stopB, hB1, hl]))
         have HR : Hid (∀ v, PassR y.ns OO hb ho ⟨4, (g : Int), y.ns, B, sh, 0⟩ r w (.returned (.tuple #[])) (wr.drewN v)) := fun v => ⟨r, rc, rfl, (HQ.out.2.drewN v).congr (by
          rw [useH]
          simp only [Int.toNat_natCast, HST.out, HBB.out]
          rw [if_neg (by omega)]
          exact likeH.refl _), .inl rfl, (HC.out.1.trans HQ.out.1).drewN v⟩
         go_quiet (fail)
         go_wp2_with fail
         exact bodyPost_ret (v := .tuple #[]) (by simp [results, Tryz.results105, go_sem]) rfl (HR.out _)
        | true =>
         rw [hB1] at r1
         go_wp2_with fail
         have hng : stopB y.ns BB OO q = false := by simp [stopB, hBq, eO, hB1, hlt]
         obtain ⟨k', rfl⟩ : ∃ k', k = k' + 1 := ⟨k - 1, by have := HP.out.2; omega⟩
         have HP2 : Hid (passN y.ns BB OO y.ns g = passN y.ns BB OO k' (q + 1) ∧ y.ns ≤ q + 1 + k') := ⟨HP.out.1.trans (passN_step k' hng), by have := HP.out.2; omega⟩
         have HQ2 : Hid (∀ v, Chg hb ho (ho + 5) r W ((wr.drewN v).setCell ⟨hb, ho + 1, none⟩ (.int .i64 ((q : Int) + 1))) ∧ HAt ((wr.drewN v).setCell ⟨hb, ho + 1, none⟩ (.int .i64 ((q : Int) + 1))) hb ho ⟨4, ((q + 1 : Nat) : Int), y.ns, BB, sh, 0⟩ r rc) := fun v => ⟨(HQ.out.1.drewN v).set (by omega) (by omega) _, ((HQ.out.2.drewN v).setGone ((q : Int) + 1)).congr ⟨rfl, by simp, rfl, fun _ _ => rfl, rfl, rfl⟩⟩
         have HGq : Hid (goneN hb ho wr = q) := by rw [Hid, HQ.out.2.goneN_eq]; simp
         go_quiet (fail)
         go_wp2_with fail
         go_roundw
         case rel => exact ⟨q + 1, k', by omega, HP2, HQ2.out _⟩
         case measure => rw [(HQ2.out _).2.goneN_eq, HGq.out]; simp; omega
    ·
     obtain rfl : q = y.ns := by omega
     go_wp2_with fail
     refine (idle54 hb ho _ r rc wr (show y.ns ≤ 1048576 from hns) HQ.out.2).mono ?_
     rintro e w1 ⟨he, hA, hC⟩
     have HST : Hid (passN y.ns BB OO y.ns g = y.ns) := HP.out.1.trans (passN_end _ _ _ k)
     have HR : Hid (PassR y.ns OO hb ho ⟨4, (g : Int), y.ns, B, sh, 0⟩ r w (.returned (.tuple #[])) w1) := ⟨_, _, rfl, hA.congr (by
      rw [useH]
      simp only [Int.toNat_natCast, HBB.out, HST.out]
      exact likeH.refl _), .inr (Nat.le_trans HC.out.1.size HQ.out.1.size), HC.out.1.trans (HQ.out.1.trans hC)⟩
     subst he
     go_wp2_with fail
     exact bodyPost_end (v := .tuple #[]) (by simp [results, Tryz.results105, go_sem]) rfl HR.out
end Go.Proofs.YtlgapgajgpilgaaGreatDoor
