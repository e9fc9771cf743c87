import Derived.Test.YtkeilejbelblcaaGreatDoorGBoBm
import Derived.Deep.RegionHeld3
import Derived.Test.YtkeilejbelblcaaGreatDoorH8
namespace Go.Proofs.YtkeilejbelblcaaGreatDoor
open Go.RowKit

/-- a list that is copied: where it lies -/
def CpAt (w : World) (c : Nat) (xa : Option Addr) (m xc : Nat) (F : Nat → Nat → Value) : Prop := (m = 0 ∧ xa = none ∧ xc = 0) ∨ ∃ b off, xa = some ⟨b, off, none⟩ ∧ b < w.heap.size ∧ ∀ i, i < m → ∀ j, j < c → w.cell? ⟨b, off + i * c + j, none⟩ = some (F i j)
theorem CpAt.mono {w w' : World} {c : Nat} {xa : Option Addr} {m xc : Nat} {F : Nat → Nat → Value} (h : CpAt w c xa m xc F) (hb : Below w.heap.size w w') : CpAt w' c xa m xc F := by
  rcases h with h | ⟨b, off, h1, h2, h3⟩
  · exact .inl h
  · exact .inr ⟨b, off, h1, Nat.lt_of_lt_of_le h2 hb.size, fun i hi j hj => cell_keep hb h2 (h3 i hi j hj)⟩
theorem CpAt.of_own {B : Nat} {e : TypeId} {c : Nat} {w : World} {a : Option Addr} {n cap : Nat} {F : Nat → Nat → Value} (h : VOwn B e c w (.slice a n cap) n F) : CpAt w c a n cap F := by
  rcases h with ⟨h1, h2⟩ | ⟨g, cp, cur, h1, h2, h3, h4, h5, h6, h7⟩
  · simp only [Value.slice.injEq] at h1
    exact .inl ⟨h2, h1.1, h1.2.2⟩
  · simp only [Value.slice.injEq] at h1
    exact .inr ⟨g, 0, h1.1, h3.lt, fun i hi j hj => by rw [h3.cell, Nat.zero_add]; exact h7 i hi j hj⟩
theorem run_copy {P : Program} (w : World) (t ty e : TypeId) (i : TypeInfo) (z : Value) (c bytes : Nat) (ht : P.underlying t = some (.slice e)) (hi : P.info? e = some i) (hz : i.zero = some z) (hsize : i.size = c) (hby : i.bytes = bytes) (hzs : z.cells.size = c) (hsz : 0 < c)
    (xa : Option Addr) (m xc : Nat) (F : Nat → Nat → Value) (h1 : ∀ i j, (F i j).oneCell' = true) (hx : CpAt w c xa m xc F) (h63 : m ≤ maxLen) (hb : m * bytes ≤ 140737488355328) :
    ∃ v' w', (Builtin.append_ #[t, t] ty #[.slice none 0 0, .slice xa m xc]).run P w = .ok v' w' ∧ VOwn w.heap.size e c w' v' m F ∧ w.grownBy w' none := by
  rcases hx with ⟨rfl, rfl, rfl⟩ | ⟨b, off, rfl, hlt, hc⟩
  · exact ⟨_, w, run_append_owned_none w 0 t ty e i c ht hi (.slice none 0 0) 0 [] (World.ownsRow_nil _ _ _ _), VOwn.nil _ _ _ _ _, ⟨rfl, rfl, rfl, Nat.le_refl _, fun _ _ _ => rfl⟩⟩
  · obtain ⟨v', w', hr, ho, hg, _⟩ := run_append_own (P := P) w w.heap.size t ty e i z c bytes ht hi hz hsize hby hzs hsz (.slice none 0 0) 0 [] (World.ownsRow_nil _ _ _ _) ⟨b, off, none⟩ m xc (vcells c m F) (vcells_len _ _ _) (fun j u hj => by
        have hk : j < m * c := by
          by_cases e : j < m * c
          · exact e
          · rw [List.getElem?_eq_none (by rw [vcells_len]; omega)] at hj
            cases hj
        obtain ⟨k1, k2, k3⟩ := vcells_spot hk
        have hadd : (⟨b, off, none⟩ : Addr).add j = ⟨b, off + j, none⟩ := by unfold Addr.add; split <;> simp_all
        rw [← k3, vcells_at k1 k2] at hj
        rw [hadd, ← k3, ← Nat.add_assoc, hc _ k1 _ k2]
        exact hj) (fun u hu => by
        simp only [vcells, List.mem_flatMap, List.mem_map] at hu
        obtain ⟨i, _, j, _, rfl⟩ := hu
        exact h1 i j) (by omega) (by rw [Nat.zero_add]; exact hb) (Nat.le_refl _)
    refine ⟨v', w', hr, VOwn.of_row ?_, hg⟩
    simpa using ho
theorem step_copy {P : Program} (w : World) {ops : Array Oper} {o : Oper} {a : Act} {K : Act → World → Prop} {Q : Exit → Act → World → Prop} {E : Prop} (hgd : o.guard = none) (s x : Operand) (t : TypeId)
    (ho : o.op = .call { callee := .builtin .append, args := #[s, x], argTypes := #[t, t] })
    (e : TypeId) (i : TypeInfo) (z : Value) (c bytes : Nat) (ht : P.underlying t = some (.slice e)) (hi : P.info? e = some i) (hz : i.zero = some z)
    (hsize : i.size = c) (hby : i.bytes = bytes) (hzs : z.cells.size = c) (hsz : 0 < c) (hs : a.eval s = .slice none 0 0)
    (xa : Option Addr) (m xc : Nat) (F : Nat → Nat → Value) (hx : a.eval x = .slice xa m xc) (h1 : ∀ i j, (F i j).oneCell' = true) (hc : CpAt w c xa m xc F) (h63 : m ≤ maxLen) (hb : m * bytes ≤ 140737488355328)
    (h : ∀ va vc w', VOwn w.heap.size e c w' (.slice va m vc) m F → w.grownBy w' none → K (a.put o.dst (.slice va m vc)) w') :
    if Region.wanted o (yielded ops a.tmps) = true then Oper.wp P o a w K Q else E := by
  have hw : Region.wanted o (yielded ops a.tmps) = true := by simp [Region.wanted, hgd]
  rw [if_pos hw]
  obtain ⟨v', w', hr, h2, h3⟩ := run_copy (P := P) w t o.type e i z c bytes ht hi hz hsize hby hzs hsz xa m xc F h1 hc h63 hb
  obtain ⟨va, vc, rfl⟩ := h2.val
  unfold Oper.wp execOp
  simp only [ho, resolve, invoke, builtin, Sem.run_bind, Sem.run_pure, Result.andThen_ok, List.map_toArray, List.map_cons, List.map_nil, hs, hx, hr]
  exact h va vc w' h2 h3
/-- the desk as an answer -/
def DkR (p : Pl) (n np : Nat) (w : World) (e : Ending) (w' : World) : Prop := FmR w (⟨true, n, fun _ => false, np, fun _ _ => 1, p.ny, (fun i => ⟨0, 0, (p.Y i).ns, fun _ => false, false, 0⟩)⟩ : Fm) e w'

end Go.Proofs.YtkeilejbelblcaaGreatDoor

namespace Go.Proofs.YtkeilejbelblcaaGreatDoor
open Go.RowKit

/-- a way's standing, cell by cell, its list of any capacity -/
def hlG (Y : Nat → Hl) (r rc : Nat → Nat) (i j : Nat) : Value :=
  if j = 0 then .int .i64 (Y i).st else if j = 1 then .int .i64 (Y i).gone else if j = 2 then .slice (some ⟨r i, 0, none⟩) (Y i).nb (rc i) else if j = 3 then .bool (Y i).shown else .int .i64 (Y i).timer
theorem hlG_one (Y : Nat → Hl) (r rc : Nat → Nat) (i j : Nat) : (hlG Y r rc i j).oneCell' = true := by
  unfold hlG
  split
  · rfl
  · split
    · rfl
    · split
      · rfl
      · split <;> rfl
/-- a list of how ways stand, of one's own, with lists of any capacity -/
structure HsG (B : Nat) (w : World) (v : Value) (n : Nat) (Y : Nat → Hl) (r rc : Nat → Nat) : Prop where
  own : VOwn B 72 5 w v n (hlG Y r rc)
  row : ∀ i, i < n → VOwn B 4 1 w (.slice (some ⟨r i, 0, none⟩) (Y i).nb (rc i)) (Y i).nb (boolF (Y i).B)
  inj : ∀ i, i < n → ∀ j, j < n → r i = r j → i = j
theorem HsG.nil (B : Nat) (w : World) (Y : Nat → Hl) (r rc : Nat → Nat) : HsG B w (.slice none 0 0) 0 Y r rc := ⟨VOwn.nil _ _ _ _ _, fun _i hi => absurd hi (Nat.not_lt_zero _), fun _i hi => absurd hi (Nat.not_lt_zero _)⟩
theorem HsG.mono {B : Nat} {w w' : World} {v : Value} {n : Nat} {Y : Nat → Hl} {r rc : Nat → Nat} {M : Nat} (h : HsG B w v n Y r rc) (hb : Below M w w') (hM : w.heap.size ≤ M) : HsG B w' v n Y r rc :=
  ⟨h.own.mono (Nat.le_refl _) hb hM, fun i hi => (h.row i hi).mono (Nat.le_refl _) hb hM, h.inj⟩
theorem HsG.by_ {B : Nat} {w w' : World} {v : Value} {n : Nat} {Y : Nat → Hl} {r rc : Nat → Nat} (h : HsG B w v n Y r rc) (hk : ∀ b T cur, Box w b T cur → (T = 72 ∨ T = 4) → w'.heap[b]? = w.heap[b]?) : HsG B w' v n Y r rc :=
  ⟨h.own.by_ fun b cur hb => hk b 72 cur hb (.inl rfl), fun i hi => (h.row i hi).by_ fun b cur hb => hk b 4 cur hb (.inr rfl), h.inj⟩
/-- one more -/
theorem HsG.app {B : Nat} {w w2 : World} {v v2 : Value} {n : Nat} {Y : Nat → Hl} {r rc : Nat → Nat} {rb cb : Nat} (h : HsG B w v n Y r rc) (hq : VOwn B 72 5 w2 v2 (n + 1) (hlG Y (updN r n rb) (updN rc n cb))) (hg : w.grownBy w2 v.ownBlock)
    (ho : VOwn B 4 1 w (.slice (some ⟨rb, 0, none⟩) (Y n).nb cb) (Y n).nb (boolF (Y n).B)) (hne : ∀ i, i < n → r i ≠ rb) : HsG B w2 v2 (n + 1) Y (updN r n rb) (updN rc n cb) := by
  have hk : ∀ {u : Value} {m : Nat} {F : Nat → Nat → Value}, VOwn B 4 1 w u m F → VOwn B 4 1 w2 u m F := fun {u m F} hx =>
    hx.keep (Nat.le_refl _) fun g hg' => hg.block g (hx.lt hg').2 fun e => hx.apart h.own (by decide) hg' e.symm
  refine ⟨hq, fun i hi => ?_, fun i hi j hj e => ?_⟩
  · by_cases c : i = n
    · subst c
      simp only [updN_same]
      exact hk ho
    · simp only [updN_ne c]
      exact hk (h.row i (by omega))
  · by_cases c : i = n
    · by_cases c2 : j = n
      · omega
      · subst c
        rw [updN_same, updN_ne c2] at e
        exact absurd e.symm (hne j (by omega))
    · by_cases c2 : j = n
      · subst c2
        rw [updN_same, updN_ne c] at e
        exact absurd e (hne i (by omega))
      · rw [updN_ne c, updN_ne c2] at e
        exact h.inj i (by omega) j (by omega) e
/-- each of them by itself -/
theorem HsG.hat {B : Nat} {w : World} {hb n cap : Nat} {Y : Nat → Hl} {r rc : Nat → Nat} (h : HsG B w (.slice (some ⟨hb, 0, none⟩) n cap) n Y r rc) {i : Nat} (hi : i < n) : HAt w hb (i * 5) (Y i) (r i) (rc i) := by
  have hr := h.row i hi
  have hne : r i ≠ hb := fun e => hr.apart h.own (by decide) rfl (by simp [Value.ownBlock, e])
  rcases h.own with ⟨e1, _⟩ | ⟨g, cp, cur, e1, _, hbx, hr2⟩
  · cases e1
  rcases hr with ⟨e2, _⟩ | ⟨g2, cp2, cur2, e2, _, hbx2, hr3⟩
  · cases e2
  simp only [Value.slice.injEq, Option.some.injEq, Addr.mk.injEq, and_true, true_and] at e1 e2
  obtain ⟨rfl, rfl⟩ := e1
  obtain ⟨rfl, rfl⟩ := e2
  have hc := fun j hj => (hbx.cell (i * 5 + j)).trans (hr2.2.2.2 i hi j hj)
  refine ⟨hbx.lt, hne, hc 0 (by omega), hc 1 (by omega), hc 2 (by omega), hc 3 (by omega), hc 4 (by omega), fun j _ => hbx.free _, hbx2.lt, fun k hk => ⟨?_, hbx2.free _⟩⟩
  have := (hbx2.cell (k * 1 + 0)).trans (hr3.2.2.2 k hk 0 (by omega))
  rwa [Nat.mul_one, Nat.add_zero] at this

end Go.Proofs.YtkeilejbelblcaaGreatDoor

namespace Go.Proofs.YtkeilejbelblcaaGreatDoor
open Go.RowKit

theorem infoPt : (Tryz.prog.info? 69).map (fun i => (i.zero, i.size, i.bytes)) = some (some (.agg #[.int .i64 0, .int .i64 0]), 2, 16) := by kernel_rfl
/-- a whole list appended to an empty row of one's own -/
theorem wpList_vcp {P : Program} (w : World) {ops : Array Oper} {rest : List Oper} {o : Oper} {a : Act} {Q : Exit → Act → World → Prop} (hgd : o.guard = none) (s x : Operand) (t : TypeId)
    (ho : o.op = .call { callee := .builtin .append, args := #[s, x], argTypes := #[t, t] })
    (B : Nat) (e : TypeId) (i : TypeInfo) (z : Value) (c bytes : Nat) (ht : P.underlying t = some (.slice e)) (hi : P.info? e = some i) (hz : i.zero = some z)
    (hsize : i.size = c) (hby : i.bytes = bytes) (hzs : z.cells.size = c) (hsz : 0 < c)
    (v : Value) (F : Nat → Nat → Value) (hs : a.eval s = v) (hown : VOwn B e c w v 0 F)
    (b off m cap : Nat) (G : Nat → Nat → Value) (hx : a.eval x = .slice (some ⟨b, off, none⟩) m cap) (hE : VsAt c 0 w (some ⟨b, off, none⟩) m G) (h1 : ∀ i j, (G i j).oneCell' = true)
    (h63 : m ≤ maxLen) (hbytes : m * bytes ≤ 140737488355328) (hbase : B ≤ w.heap.size)
    (h : Halt (∀ v' w', VOwn B e c w' v' m G → w.grownBy w' v.ownBlock → wpList P ops Q rest (a.put o.dst v') w')) : wpList P ops Q (o :: rest) a w := by
  refine wpList_append_own w hgd s x t ho B e i z c bytes ht hi hz hsize hby hzs hsz v 0 (vcells c 0 F) hs hown.row ⟨b, off, none⟩ m cap (vcells c m G) hx (vcells_len _ _ _) hE.news (fun u hu => by
    simp only [vcells, List.mem_flatMap, List.mem_map] at hu
    obtain ⟨i, _, j, _, rfl⟩ := hu
    exact h1 i j) (by omega) (by rw [Nat.zero_add]; exact hbytes) hbase ?_
  intro v' w' ho' hg' _
  have e0 : vcells c 0 F = [] := rfl
  rw [e0, List.nil_append, Nat.zero_add] at ho'
  exact h v' w' (VOwn.of_row ho') hg'
/-- what l18copy gives -/
def CopyR (w : World) (f : Fm) (e : Ending) (w' : World) : Prop :=
  ∃ (ov pv hv : Value) (r rc : Nat → Nat), e = .returned (.agg #[.bool f.ok, ov, pv, hv]) ∧ VOwn w.heap.size 4 1 w' ov f.no (boolF f.O) ∧ VOwn w.heap.size 69 2 w' pv f.np (intF f.P) ∧ HsG w.heap.size w' hv f.nh f.Y r rc ∧ (∀ g, ov.ownBlock = some g → ∀ i, i < f.nh → r i ≠ g) ∧ Below w.heap.size w w'
/-- while the frame is copied: k ways are done -/
def CpM (f : Fm) (ob oo pb po : Nat) (ha : Option Addr) (oc pc hc : Nat) (w : World) (ov : Value) (no : Nat) (pv : Value) (np : Nat) (hv : Value) (k : Nat) (r rc : Nat → Nat) (W : World) : Prop :=
  Below w.heap.size w W ∧ Box W w.heap.size 42 #[.bool f.ok, .slice (some ⟨ob, oo, none⟩) f.no oc, .slice (some ⟨pb, po, none⟩) f.np pc, .slice ha f.nh hc] ∧ Box W (w.heap.size + 1) 42 #[.bool false, .slice none 0 0, .slice none 0 0, .slice none 0 0] ∧ Box W (w.heap.size + 1 + 1) 42 #[.bool f.ok, ov, pv, hv] ∧ VOwn w.heap.size 4 1 W ov no (boolF f.O) ∧ VOwn w.heap.size 69 2 W pv np (intF f.P) ∧ HsG w.heap.size W hv k f.Y r rc ∧ (∀ g, ov.ownBlock = some g → ∀ i, i < k → r i ≠ g)
/-- a step that grows one row (or none) and writes into the frame -/
theorem CpM.keep {f : Fm} {ob oo pb po : Nat} {ha : Option Addr} {oc pc hc : Nat} {w : World} {ov : Value} {no : Nat} {pv : Value} {np : Nat} {hv : Value} {k : Nat} {r rc : Nat → Nat} {W W' : World} (h : CpM f ob oo pb po ha oc pc hc w ov no pv np hv k r rc W) (hb : Below W.heap.size W W') : CpM f ob oo pb po ha oc pc hc w ov no pv np hv k r rc W' := by
  obtain ⟨h1, h2, h3, h4, h5, h6, h7, h8⟩ := h
  have hl := Nat.le_refl W.heap.size
  exact ⟨h1.trans (hb.mono h1.size), h2.mono hb hl, h3.mono hb hl, h4.mono hb hl, h5.mono (Nat.le_refl _) hb hl, h6.mono (Nat.le_refl _) hb hl, h7.mono hb hl, h8⟩

end Go.Proofs.YtkeilejbelblcaaGreatDoor

namespace Go.Proofs.YtkeilejbelblcaaGreatDoor
open Go.RowKit

/-- Occ is copied -/
theorem CpM.occ {f : Fm} {ob oo pb po : Nat} {ha : Option Addr} {oc pc hc : Nat} {w : World} {pv : Value} {np : Nat} {hv : Value} {r rc : Nat → Nat} {W W' : World} {ov' : Value} {no' : Nat} (h : CpM f ob oo pb po ha oc pc hc w (.slice none 0 0) 0 pv np hv 0 r rc W) (hq : VOwn w.heap.size 4 1 W' ov' no' (boolF f.O)) (hg : W.grownBy W' none) :
    CpM f ob oo pb po ha oc pc hc w ov' no' pv np hv 0 r rc (W'.setCell ⟨w.heap.size + 1 + 1, 1, none⟩ ov') ∧ Box W' (w.heap.size + 1 + 1) 42 #[.bool f.ok, .slice none 0 0, pv, hv] := by
  obtain ⟨h1, h2, h3, h4, h5, h6, h7, h8⟩ := h
  have hb4 : Box W' (w.heap.size + 1 + 1) 42 #[.bool f.ok, .slice none 0 0, pv, hv] := h4.grown hg (by simp)
  have K : ∀ b T cur, Box W b T cur → b ≠ (w.heap.size + 1 + 1) → (W'.setCell ⟨w.heap.size + 1 + 1, 1, none⟩ ov').heap[b]? = W.heap[b]? := fun b T cur hb hne => (Below.heap_setCell _ _ _ _ hne).trans (hg.block b hb.lt (by simp))
  have hB : Below w.heap.size W (W'.setCell ⟨w.heap.size + 1 + 1, 1, none⟩ ov') := (Below.of_grown hg h1.size fun g e => by cases e).setCell (by show w.heap.size ≤ (w.heap.size + 1 + 1); omega) _
  refine ⟨⟨h1.trans hB, h2.keep (K _ _ _ h2 (by omega)), h3.keep (K _ _ _ h3 (by omega)), hb4.set 1 ov', hq.set hb4 (by decide) 1 ov', h6.by_ fun b cur hb => K b 69 cur hb (hb.ne h4 (by decide)), h7.by_ fun b T cur hb hT => K b T cur hb (hb.ne h4 (by rcases hT with rfl | rfl <;> decide)), fun _ _ i hi => absurd hi (Nat.not_lt_zero _)⟩, hb4⟩
/-- Points is copied -/
theorem CpM.pts {f : Fm} {ob oo pb po : Nat} {ha : Option Addr} {oc pc hc : Nat} {w : World} {ov : Value} {no : Nat} {hv : Value} {k : Nat} {r rc : Nat → Nat} {W W' : World} {pv' : Value} {np' : Nat} (h : CpM f ob oo pb po ha oc pc hc w ov no (.slice none 0 0) 0 hv k r rc W) (hq : VOwn w.heap.size 69 2 W' pv' np' (intF f.P)) (hg : W.grownBy W' none) :
    CpM f ob oo pb po ha oc pc hc w ov no pv' np' hv k r rc (W'.setCell ⟨w.heap.size + 1 + 1, 2, none⟩ pv') ∧ Box W' (w.heap.size + 1 + 1) 42 #[.bool f.ok, ov, .slice none 0 0, hv] := by
  obtain ⟨h1, h2, h3, h4, h5, h6, h7, h8⟩ := h
  have hb4 : Box W' (w.heap.size + 1 + 1) 42 #[.bool f.ok, ov, .slice none 0 0, hv] := h4.grown hg (by simp)
  have K : ∀ b T cur, Box W b T cur → b ≠ (w.heap.size + 1 + 1) → (W'.setCell ⟨w.heap.size + 1 + 1, 2, none⟩ pv').heap[b]? = W.heap[b]? := fun b T cur hb hne => (Below.heap_setCell _ _ _ _ hne).trans (hg.block b hb.lt (by simp))
  have hB : Below w.heap.size W (W'.setCell ⟨w.heap.size + 1 + 1, 2, none⟩ pv') := (Below.of_grown hg h1.size fun g e => by cases e).setCell (by show w.heap.size ≤ (w.heap.size + 1 + 1); omega) _
  refine ⟨⟨h1.trans hB, h2.keep (K _ _ _ h2 (by omega)), h3.keep (K _ _ _ h3 (by omega)), hb4.set 2 pv', h5.by_ fun b cur hb => K b 4 cur hb (hb.ne h4 (by decide)), hq.set hb4 (by decide) 2 pv', h7.by_ fun b T cur hb hT => K b T cur hb (hb.ne h4 (by rcases hT with rfl | rfl <;> decide)), h8⟩, hb4⟩
/-- one way more is copied -/
theorem CpM.way {f : Fm} {ob oo pb po : Nat} {ha : Option Addr} {oc pc hc : Nat} {w : World} {ov : Value} {no : Nat} {pv : Value} {np : Nat} {hv : Value} {k : Nat} {r rc : Nat → Nat} {W W' : World} {hv' : Value} {rb cb : Nat} (h : CpM f ob oo pb po ha oc pc hc w ov no pv np hv k r rc W) (hq : VOwn w.heap.size 72 5 W' hv' (k + 1) (hlG f.Y (updN r k rb) (updN rc k cb))) (hg : W.grownBy W' hv.ownBlock)
    (ho : VOwn w.heap.size 4 1 W (.slice (some ⟨rb, 0, none⟩) (f.Y k).nb cb) (f.Y k).nb (boolF (f.Y k).B)) (hne : ∀ i, i < k → r i ≠ rb) (hov : ∀ g, ov.ownBlock = some g → rb ≠ g) :
    CpM f ob oo pb po ha oc pc hc w ov no pv np hv' (k + 1) (updN r k rb) (updN rc k cb) (W'.setCell ⟨w.heap.size + 1 + 1, 3, none⟩ hv') ∧ Box W' (w.heap.size + 1 + 1) 42 #[.bool f.ok, ov, pv, hv] := by
  obtain ⟨h1, h2, h3, h4, h5, h6, h7, h8⟩ := h
  have hb4 : Box W' (w.heap.size + 1 + 1) 42 #[.bool f.ok, ov, pv, hv] := h4.grown hg fun e => h7.own.off h4 (by decide) e rfl
  have K : ∀ b T cur, Box W b T cur → T ≠ 72 → b ≠ (w.heap.size + 1 + 1) → (W'.setCell ⟨w.heap.size + 1 + 1, 3, none⟩ hv').heap[b]? = W.heap[b]? := fun b T cur hb hT hne => (Below.heap_setCell _ _ _ _ hne).trans (hg.block b hb.lt fun e => h7.own.off hb hT e.symm rfl)
  have hB : Below w.heap.size W (W'.setCell ⟨w.heap.size + 1 + 1, 3, none⟩ hv') := (Below.of_grown hg h1.size fun g e => (h7.own.lt e).1).setCell (by show w.heap.size ≤ (w.heap.size + 1 + 1); omega) _
  have h7' := h7.app hq hg ho hne
  have K2 : ∀ b T cur, Box W' b T cur → T ≠ 42 → (W'.setCell ⟨w.heap.size + 1 + 1, 3, none⟩ hv').heap[b]? = W'.heap[b]? := fun b T cur hb hT => Below.heap_setCell _ _ _ _ (hb.ne hb4 hT)
  refine ⟨⟨h1.trans hB, h2.keep (K _ _ _ h2 (by decide) (by omega)), h3.keep (K _ _ _ h3 (by decide) (by omega)), hb4.set 3 hv', h5.by_ fun b cur hb => K b 4 cur hb (by decide) (hb.ne h4 (by decide)), h6.by_ fun b cur hb => K b 69 cur hb (by decide) (hb.ne h4 (by decide)), h7'.by_ fun b T cur hb hT => K2 b T cur hb (by rcases hT with rfl | rfl <;> decide), fun g hg' i hi => ?_⟩, hb4⟩
  by_cases c : i = k
  · subst c
    rw [updN_same]
    exact hov g hg'
  · rw [updN_ne c]
    exact h8 g hg' i (by omega)

end Go.Proofs.YtkeilejbelblcaaGreatDoor
